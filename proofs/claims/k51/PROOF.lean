import PyProof.Rows.All
import Wide.All
import OpenK.AllK
import Wide.FinOn
import PySem.Challenge.RW_escheat_k51_replayed_log
import HandS.ForMost
import HandS.ForExc
import HandS.Walk
import HandS.Flow
import HandS.IsInst
import HandS.StrMore
import HandS.ExcCtx
import HandS.HotCalls
import HandS.Wide
import HandS.TupAny
import HandS.Zip
import HandS.Codes
import HandS.ExcOwn
import PyProof.AutoSeq1
import HandS.More
import KE.IntTextLaws
import HandS.Star
import HandS.Small
import HandS.SortInts
import HandS.RaiseMore
import PyProof.DictUpdate
import PyProof.DictDisplay
import PyProof.ZipIter
import PyProof.ListNew
import HandS.Conv
import HandS.ExcValue
import HandS.TupLe
import HandS.FStr
import KE.KSuper
import KE.KExcSuper
import HandS.ExcInit
import HandS.Nested
import HandS.ExcField
import HandS.ExcIs
import KE.KExcIs
import HandS.ExcInitHot
import KE.GoesMore
import KE.GoesEnum
import HandS.Property
import HandS.Dict
import HandS.GenList
import HandS.OwnIter
import PyProof.RulesDelMore
import HandS.DictComp
import HandS.CallSlots
import HandS.MakeKwOnly
import HandS.Rev
import KE.KUnpackStar
import HandS.RevRange
import HandS.TupSets
import KE.KWithOwn
import PyProof.ReprRoads
import PyProof.ReprLen
import PyProof.ReprRoom
import PyProof.StrLawsRepr
set_option Elab.async false
set_option linter.all false
set_option maxRecDepth 100000
set_option exponentiation.threshold 3000
section
open PySem PySem.W PyProof.Rows
set_option maxHeartbeats 0 in
open_top K51_head for PySem.Challenge.rw_escheat_k51_replayed_log
end
namespace MM
open PySem PySem.Spec PyProof.Rows L2
inductive D where
  | non | bl (b : Bool) | int (i : Int) | str (s : Str) | tup (ds : List D) | rol (ds : List D) | ref (n : Nat) | obj (a : Addr) | ty (n : String) | kon (n : Str) | rdc (ks : List Key) (ds : List D) | xo (a d : Addr) (fl : List Str) (ds : List D)
deriving Inhabited
inductive MO where
  | lst (ds : List D) | dic (kvs : List (Key × D)) | ldc (kvs : List (Key × D)) | ins (C : Str) (fs : List (Str × D)) | dead
abbrev MH := List MO
abbrev MS := List (Option D)
abbrev TL := List (Option Addr)
def EV (K : PySem.W.Frag) (c : Str) (v : Value) : Prop := ∃ a, v = .ref a ∧ PySem.W.nsIn K mainGlobals c = some (some (.ref a))

def NL (L : TL) (a : Addr) : Prop := ∀ n : Nat, L[n]? ≠ some (some a)
def KL (K : PySem.W.Frag) (a : Addr) (xs : List V) : Prop :=
  ∃ (o : Obj) (its : Array Value) (n : Nat), K.lookup a = some o ∧ o.cls = .type "list" ∧ o.dict = none ∧ o.data = .seq its n ∧ its.size ≤ sizeLine ∧ Vals xs its.toList
def KT (K : PySem.W.Frag) (a : Addr) (xs : List V) : Prop :=
  ∃ (o : Obj) (its : Array Value) (n : Nat), K.lookup a = some o ∧ o.cls = .type "tuple" ∧ o.data = .seq its n ∧ its.size ≤ sizeLine ∧ Vals xs its.toList
def SF (K : PySem.W.Frag) (L : TL) (H : Hp) (a : Addr) (xs : List V) : Prop := (Rd H a (.lst xs) ∧ NL L a) ∨ KL K a xs
def SU (K : PySem.W.Frag) (L : TL) (H : Hp) (a : Addr) (xs : List V) : Prop := (Rd H a (.tup xs) ∧ NL L a) ∨ KT K a xs

section
variable (K : PySem.W.Frag) (L : TL) (H : Hp)
mutual
def Rep : D → V → Prop
  | .non, v => v = .non
  | .bl b, v => v = .bl b
  | .int i, v => v = .int i
  | .str s, v => v = .str s
  | .obj a, v => v = .ref a
  | .ty n, v => v = .ty n
  | .kon n, v => ∃ a, v = .ref a ∧ PySem.W.nsIn K mainGlobals n = some (some (.ref a))
  | .rdc ks ds, v => ∃ a xs, v = .ref a ∧ Rd H a (.dK (ks.zip xs)) ∧ NL L a ∧ (ks.length = ds.length ∧ ks ≠ []) ∧ RepL ds xs
  | .xo a d fl ds, v => v = .ref a ∧ ∃ xs, Rd H d (.xd (fl.zip xs)) ∧ NL L d ∧ fl.length = ds.length ∧ RepL ds xs
  | .tup ds, v => ∃ a xs, v = .ref a ∧ SU K L H a xs ∧ RepL ds xs
  | .rol ds, v => ∃ a xs, v = .ref a ∧ SF K L H a xs ∧ RepL ds xs
  | .ref n, v => ∃ a, v = .ref a ∧ (L[n]? = some (some a) ∨ L[n]? = some none)
def RepL : List D → List V → Prop
  | [], xs => xs = []
  | d :: ds, xs => ∃ v vs, xs = v :: vs ∧ Rep d v ∧ RepL ds vs
end
def RepK : List (Key × D) → List (Key × V) → Prop
  | [], xs => xs = []
  | d :: ds, xs => ∃ v vs, xs = (d.1, v) :: vs ∧ Rep K L H d.2 v ∧ RepK ds vs
def RepF : List (Str × D) → List (Str × V) → Prop
  | [], xs => xs = []
  | d :: ds, xs => ∃ v vs, xs = (d.1, v) :: vs ∧ Rep K L H d.2 v ∧ RepF ds vs
structure RepS (δ : MS) (σ : L2.St) : Prop where
  len : δ.length = σ.length
  at' : ∀ (i : Nat) (d : D), δ[i]? = some (some d) → ∃ v, σ[i]? = some (some v) ∧ Rep K L H d v
def OAt (l : Option (Option Addr)) : MO → Prop
  | .dead => l = some none
  | .lst ds => ∃ a xs, l = some (some a) ∧ H a = some (.lst xs) ∧ RepL K L H ds xs
  | .dic kvs => ∃ a ws, l = some (some a) ∧ H a = some (.dK ws) ∧ RepK K L H kvs ws
  | .ldc kvs => ∃ a o ws, l = some (some a) ∧ H a = some (.frz o (.dK ws)) ∧ RepK K L H kvs ws
  | .ins C fs => ∃ a dx Ca ws, l = some (some a) ∧ H a = some (.ins Ca dx ws) ∧ RepF K L H fs ws ∧ PySem.W.nsIn K mainGlobals C = some (some (.ref Ca))
structure Rel (h : MH) : Prop where
  len : L.length = h.length
  at' : ∀ (n : Nat) (o : MO), h[n]? = some o → OAt K L H L[n]? o
  inj : ∀ (n m : Nat) (a : Addr), L[n]? = some (some a) → L[m]? = some (some a) → n = m
end
structure Ext (L : TL) (H : Hp) (L' : TL) (H' : Hp) : Prop where
  live : ∀ (n : Nat) (o : Option Addr), L[n]? = some o → L'[n]? = some o ∨ L'[n]? = some none
  kept : ∀ a o, H a = some o → NL L a → H' a = some o ∧ NL L' a
  lkd : ∀ a o u, H a = some (.frz o u) → H' a = some (.frz o u)
section
variable {K : PySem.W.Frag} {L L' : TL} {H H' : Hp} {h h' : MH} {a p : Addr}
theorem Ext.refl (L : TL) (H : Hp) : Ext L H L H := ⟨fun _ _ e => .inl e, fun _ _ e n => ⟨e, n⟩, fun _ _ _ e => e⟩
theorem Ext.trans {L₁ L₂ L₃ : TL} {H₁ H₂ H₃ : Hp} (x : Ext L₁ H₁ L₂ H₂) (y : Ext L₂ H₂ L₃ H₃) : Ext L₁ H₁ L₃ H₃ := by
  refine ⟨fun n o e => ?_, fun a o e n => ?_, fun a o u e => y.lkd a o u (x.lkd a o u e)⟩
  · rcases x.live n o e with e1 | e1
    · exact y.live n o e1
    · rcases y.live n _ e1 with e2 | e2 <;> exact .inr e2
  · obtain ⟨e1, n1⟩ := x.kept a o e n
    exact y.kept a o e1 n1
theorem Ext.rd (x : Ext L H L' H') {u : HO} (r : Rd H a u) (n : NL L a) : Rd H' a u ∧ NL L' a := by
  rcases r with r | ⟨o, r⟩
  · obtain ⟨e, m⟩ := x.kept a _ r n
    exact ⟨.inl e, m⟩
  · obtain ⟨e, m⟩ := x.kept a _ r n
    exact ⟨.inr ⟨o, e⟩, m⟩
theorem Ext.sf (x : Ext L H L' H') {xs : List V} (r : SF K L H a xs) : SF K L' H' a xs := by
  rcases r with ⟨r, n⟩ | r
  · exact .inl (x.rd r n)
  · exact .inr r
theorem Ext.su (x : Ext L H L' H') {xs : List V} (r : SU K L H a xs) : SU K L' H' a xs := by
  rcases r with ⟨r, n⟩ | r
  · exact .inl (x.rd r n)
  · exact .inr r
mutual
theorem Rep.mono (x : Ext L H L' H') : ∀ {d : D} {v : V}, Rep K L H d v → Rep K L' H' d v
  | .non, _, r => by unfold Rep at r ⊢; exact r
  | .bl _, _, r => by unfold Rep at r ⊢; exact r
  | .int _, _, r => by unfold Rep at r ⊢; exact r
  | .str _, _, r => by unfold Rep at r ⊢; exact r
  | .obj _, _, r => by unfold Rep at r ⊢; exact r
  | .ty _, _, r => by unfold Rep at r ⊢; exact r
  | .kon _, _, r => by unfold Rep at r ⊢; exact r
  | .rdc ks ds, _, r => by
    unfold Rep at r ⊢
    obtain ⟨a, xs, e, s, n, l, q⟩ := r
    exact ⟨a, xs, e, (x.rd s n).1, (x.rd s n).2, l, RepL.mono x q⟩
  | .xo a d fl ds, _, r => by
    unfold Rep at r ⊢
    obtain ⟨e, xs, s, n, l, q⟩ := r
    exact ⟨e, xs, (x.rd s n).1, (x.rd s n).2, l, RepL.mono x q⟩
  | .tup ds, _, r => by
    unfold Rep at r ⊢
    obtain ⟨a, xs, e, s, q⟩ := r
    exact ⟨a, xs, e, x.su s, RepL.mono x q⟩
  | .rol ds, _, r => by
    unfold Rep at r ⊢
    obtain ⟨a, xs, e, s, q⟩ := r
    exact ⟨a, xs, e, x.sf s, RepL.mono x q⟩
  | .ref n, _, r => by
    unfold Rep at r ⊢
    obtain ⟨a, e, q⟩ := r
    refine ⟨a, e, ?_⟩
    rcases q with q | q
    · exact x.live n _ q
    · rcases x.live n _ q with z | z <;> exact .inr z
theorem RepL.mono (x : Ext L H L' H') : ∀ {ds : List D} {vs : List V}, RepL K L H ds vs → RepL K L' H' ds vs
  | [], _, r => by unfold RepL at r ⊢; exact r
  | d :: ds, _, r => by
    unfold RepL at r ⊢
    obtain ⟨v, vs, e, q, w⟩ := r
    exact ⟨v, vs, e, Rep.mono x q, RepL.mono x w⟩
end
theorem RepK.mono (x : Ext L H L' H') : ∀ {ds : List (Key × D)} {vs}, RepK K L H ds vs → RepK K L' H' ds vs
  | [], _, r => r
  | d :: ds, _, ⟨v, vs, e, q, w⟩ => ⟨v, vs, e, q.mono x, RepK.mono x w⟩
theorem RepF.mono (x : Ext L H L' H') : ∀ {ds : List (Str × D)} {vs}, RepF K L H ds vs → RepF K L' H' ds vs
  | [], _, r => r
  | d :: ds, _, ⟨v, vs, e, q, w⟩ => ⟨v, vs, e, q.mono x, RepF.mono x w⟩
theorem RepS.mono {δ : MS} {σ : L2.St} (x : Ext L H L' H') (r : RepS K L H δ σ) : RepS K L' H' δ σ :=
  ⟨r.len, fun i d e => let ⟨v, e1, q⟩ := r.at' i d e; ⟨v, e1, q.mono x⟩⟩
theorem RepS.set {δ : MS} {σ : L2.St} {i : Nat} {d : D} {v : V} (r : RepS K L H δ σ) (q : Rep K L H d v) : RepS K L H (δ.set i (some d)) (σ.set i (some v)) := by
  refine ⟨by rw [List.length_set, List.length_set]; exact r.len, fun j c e => ?_⟩
  by_cases hj : i = j
  · subst hj
    have hi : i < δ.length := by
      have := (List.getElem?_eq_some_iff.mp e).1
      rwa [List.length_set] at this
    rw [List.getElem?_set_self hi] at e
    cases e
    exact ⟨v, List.getElem?_set_self (by rw [← r.len]; exact hi), q⟩
  · rw [List.getElem?_set_ne hj] at e
    rw [List.getElem?_set_ne hj]
    exact r.at' j c e
theorem RepS.setNone {δ : MS} {σ : L2.St} {i : Nat} (r : RepS K L H δ σ) : RepS K L H (δ.set i none) (σ.set i none) := by
  refine ⟨by rw [List.length_set, List.length_set]; exact r.len, fun j c e => ?_⟩
  by_cases hj : i = j
  · subst hj
    have hi : i < δ.length := by
      have := (List.getElem?_eq_some_iff.mp e).1
      rwa [List.length_set] at this
    rw [List.getElem?_set_self hi] at e
    cases e
  · rw [List.getElem?_set_ne hj] at e
    rw [List.getElem?_set_ne hj]
    exact r.at' j c e

theorem RepL.length : ∀ {ds : List D} {vs : List V}, RepL K L H ds vs → ds.length = vs.length
  | [], _, r => by unfold RepL at r; subst r; rfl
  | d :: ds, _, r => by
    unfold RepL at r
    obtain ⟨v, vs, rfl, _, w⟩ := r
    rw [List.length_cons, List.length_cons, RepL.length w]
theorem RepL.nil : RepL K L H [] [] := by unfold RepL; rfl
theorem RepL.cons {d : D} {v : V} {ds vs} (q : Rep K L H d v) (r : RepL K L H ds vs) : RepL K L H (d :: ds) (v :: vs) := by
  unfold RepL; exact ⟨v, vs, rfl, q, r⟩
theorem RepL.cons_inv {d : D} {ds vs} (r : RepL K L H (d :: ds) vs) : ∃ v ws, vs = v :: ws ∧ Rep K L H d v ∧ RepL K L H ds ws := by
  unfold RepL at r; exact r
theorem RepL.nil_inv {vs} (r : RepL K L H [] vs) : vs = [] := by unfold RepL at r; exact r
theorem RepL.get : ∀ {ds : List D} {vs : List V} {i : Nat} {d : D}, RepL K L H ds vs → ds[i]? = some d → ∃ v, vs[i]? = some v ∧ Rep K L H d v
  | [], _, _, _, _, e => by simp at e
  | d :: ds, _, 0, _, r, e => by
    obtain ⟨v, ws, rfl, q, _⟩ := r.cons_inv
    simp at e; subst e
    exact ⟨v, rfl, q⟩
  | d :: ds, _, i + 1, _, r, e => by
    obtain ⟨v, ws, rfl, _, w⟩ := r.cons_inv
    exact RepL.get (i := i) w (by simpa using e)
theorem RepL.get' : ∀ {ds : List D} {vs : List V} {i : Nat} {v : V}, RepL K L H ds vs → vs[i]? = some v → ∃ d, ds[i]? = some d ∧ Rep K L H d v := fun {ds vs i v} r e => by
  have hl := r.length
  have hi := (List.getElem?_eq_some_iff.mp e).1
  have hd : i < ds.length := by omega
  obtain ⟨u, e1, q⟩ := r.get (List.getElem?_eq_getElem hd)
  rw [e] at e1; cases e1
  exact ⟨_, List.getElem?_eq_getElem hd, q⟩
theorem RepL.append : ∀ {ds es : List D} {vs ws : List V}, RepL K L H ds vs → RepL K L H es ws → RepL K L H (ds ++ es) (vs ++ ws)
  | [], _, _, _, r, s => by rw [r.nil_inv]; exact s
  | d :: ds, _, _, _, r, s => by
    obtain ⟨v, vs, rfl, q, w⟩ := r.cons_inv
    exact .cons q (RepL.append w s)
theorem RepL.take : ∀ {ds : List D} {vs : List V} (n : Nat), RepL K L H ds vs → RepL K L H (ds.take n) (vs.take n)
  | _, _, 0, _ => .nil
  | [], _, _ + 1, r => by rw [r.nil_inv]; exact .nil
  | d :: ds, _, n + 1, r => by
    obtain ⟨v, vs, rfl, q, w⟩ := r.cons_inv
    exact .cons q (RepL.take n w)
theorem RepL.drop : ∀ {ds : List D} {vs : List V} (n : Nat), RepL K L H ds vs → RepL K L H (ds.drop n) (vs.drop n)
  | _, _, 0, r => r
  | [], _, _ + 1, r => by rw [r.nil_inv]; exact .nil
  | d :: ds, _, n + 1, r => by
    obtain ⟨v, vs, rfl, _, w⟩ := r.cons_inv
    exact RepL.drop n w
theorem RepL.set {d : D} {v : V} (q : Rep K L H d v) : ∀ {ds : List D} {vs : List V} (n : Nat), RepL K L H ds vs → RepL K L H (ds.set n d) (vs.set n v)
  | [], _, _, r => by rw [r.nil_inv]; exact .nil
  | c :: ds, _, 0, r => by
    obtain ⟨u, vs, rfl, _, w⟩ := r.cons_inv
    exact .cons q w
  | c :: ds, _, n + 1, r => by
    obtain ⟨u, vs, rfl, p, w⟩ := r.cons_inv
    exact .cons p (RepL.set q n w)
theorem RepL.reverse : ∀ {ds : List D} {vs : List V}, RepL K L H ds vs → RepL K L H ds.reverse vs.reverse
  | [], _, r => by rw [r.nil_inv]; exact .nil
  | d :: ds, _, r => by
    obtain ⟨v, vs, rfl, q, w⟩ := r.cons_inv
    rw [List.reverse_cons, List.reverse_cons]
    exact (RepL.reverse w).append (.cons q .nil)
theorem Rel.ltL (r : Rel K L H h) {n : Nat} {o : Option Addr} (e : L[n]? = some o) : n < h.length := by
  rw [← r.len]; exact (List.getElem?_eq_some_iff.mp e).1
theorem Rel.live (r : Rel K L H h) {n : Nat} (e : L[n]? = some (some a)) : ∃ o, H a = some o := by
  have hn := r.ltL e
  have q := r.at' n h[n] (List.getElem?_eq_getElem hn)
  generalize h[n] = o at q
  cases o with
  | dead => rw [show OAt K L H L[n]? .dead = (L[n]? = some none) from rfl, e] at q; cases q
  | lst ds =>
    obtain ⟨b, xs, e1, e2, _⟩ := q
    rw [e] at e1; cases e1
    exact ⟨_, e2⟩
  | dic ds =>
    obtain ⟨b, xs, e1, e2, _⟩ := q
    rw [e] at e1; cases e1
    exact ⟨_, e2⟩
  | ldc ds =>
    obtain ⟨b, o, xs, e1, e2, _⟩ := q
    rw [e] at e1; cases e1
    exact ⟨_, e2⟩
  | ins C ds =>
    obtain ⟨b, dx, Ca, xs, e1, e2, _⟩ := q
    rw [e] at e1; cases e1
    exact ⟨_, e2⟩
theorem Rel.nl_new (r : Rel K L H h) (hp : H p = none) : NL L p := fun n e => by
  obtain ⟨o, e1⟩ := r.live e
  rw [hp] at e1; cases e1
theorem OAt.mono (x : Ext L H L' H') {l : Option (Option Addr)} {o : MO} (same : ∀ a, l = some (some a) → H' a = H a) (q : OAt K L H l o) : OAt K L' H' l o := by
  cases o with
  | dead => exact q
  | lst ds =>
    obtain ⟨b, xs, e1, e2, w⟩ := q
    exact ⟨b, xs, e1, (same b e1).trans e2, w.mono x⟩
  | dic ds =>
    obtain ⟨b, xs, e1, e2, w⟩ := q
    exact ⟨b, xs, e1, (same b e1).trans e2, w.mono x⟩
  | ldc ds =>
    obtain ⟨b, o, xs, e1, e2, w⟩ := q
    exact ⟨b, o, xs, e1, (same b e1).trans e2, w.mono x⟩
  | ins C ds =>
    obtain ⟨b, dx, Ca, xs, e1, e2, w, hC⟩ := q
    exact ⟨b, dx, Ca, xs, e1, (same b e1).trans e2, w.mono x, hC⟩
theorem Rel.fresh (r : Rel K L H h) {o : HO} (hp : H p = none) : Ext L H L (upd H p o) ∧ Rel K L (upd H p o) h := by
  have x : Ext L H L (upd H p o) := ⟨fun _ _ e => .inl e, fun a u e n => ⟨by rw [upd_ne (ne_of_none e hp)]; exact e, n⟩, fun a ob u e => by rw [upd_ne (ne_of_none e hp)]; exact e⟩
  refine ⟨x, r.len, fun n u e => ?_, r.inj⟩
  refine (r.at' n u e).mono x fun a ea => ?_
  obtain ⟨v, ev⟩ := r.live ea
  exact upd_ne (ne_of_none ev hp)
theorem getElem?_snoc {α : Type} (l : List α) (x : α) (n : Nat) : (l ++ [x])[n]? = if n = l.length then some x else l[n]? := by
  split
  · rename_i e; subst e; simp
  · rename_i e
    by_cases hn : n < l.length
    · rw [List.getElem?_append_left hn]
    · rw [List.getElem?_append_right (by omega), List.getElem?_eq_none (by simp; omega), List.getElem?_eq_none (by omega)]
theorem ext_alloc {o : HO} (hp : H p = none) : Ext L H (L ++ [some p]) (upd H p o) := by
  refine ⟨fun n u e => .inl ?_, fun a u e n => ⟨by rw [upd_ne (ne_of_none e hp)]; exact e, fun k z => ?_⟩, fun a ob u e => by rw [upd_ne (ne_of_none e hp)]; exact e⟩
  · rw [List.getElem?_append_left (List.getElem?_eq_some_iff.mp e).1]; exact e
  · rw [getElem?_snoc] at z
    split at z
    · have e1 : p = a := by simpa using z
      subst e1; rw [hp] at e; cases e
    · exact n k z
theorem Rel.alloc (r : Rel K L H h) {o : HO} {m : MO} (hp : H p = none) (q : OAt K (L ++ [some p]) (upd H p o) (some (some p)) m) : Ext L H (L ++ [some p]) (upd H p o) ∧ Rel K (L ++ [some p]) (upd H p o) (h ++ [m]) := by
  have x : Ext L H (L ++ [some p]) (upd H p o) := ext_alloc hp
  have low : ∀ n : Nat, n ≠ L.length → (L ++ [some p])[n]? = L[n]? := fun n hn => by rw [getElem?_snoc, if_neg hn]
  refine ⟨x, by rw [List.length_append, List.length_append, r.len]; rfl, fun n u e => ?_, fun n k b e1 e2 => ?_⟩
  · rw [getElem?_snoc] at e
    by_cases hn : n = h.length
    · rw [if_pos hn] at e; cases e
      rw [getElem?_snoc, if_pos (by rw [r.len]; exact hn)]
      exact q
    · rw [if_neg hn] at e
      rw [low n (by rw [r.len]; exact hn)]
      refine (r.at' n u e).mono x fun a ea => ?_
      obtain ⟨v, ev⟩ := r.live ea
      exact upd_ne (ne_of_none ev hp)
  · rw [getElem?_snoc] at e1 e2
    split at e1 <;> split at e2
    · rename_i z1 z2; rw [z1, z2]
    · have : p = b := by simpa using e1
      subst this
      exact absurd e2 (r.nl_new hp k)
    · have : p = b := by simpa using e2
      subst this
      exact absurd e1 (r.nl_new hp n)
    · exact r.inj n k b e1 e2
theorem ext_write {n : Nat} {o : HO} (en : L[n]? = some (some a)) (nf : ∀ o u, H a ≠ some (.frz o u)) : Ext L H L (upd H a o) := ⟨fun _ _ e => .inl e, fun b u e k => ⟨by rw [upd_ne (fun z => k n (by rw [z]; exact en))]; exact e, k⟩, fun b ob u e => by rw [upd_ne (fun z => by subst z; exact nf _ _ e)]; exact e⟩
theorem Rel.write (r : Rel K L H h) {n : Nat} {o : HO} {m : MO} (en : L[n]? = some (some a)) (nf : ∀ o u, H a ≠ some (.frz o u)) (q : OAt K L (upd H a o) (some (some a)) m) : Ext L H L (upd H a o) ∧ Rel K L (upd H a o) (h.set n m) := by
  have x : Ext L H L (upd H a o) := ext_write en nf
  refine ⟨x, by rw [List.length_set]; exact r.len, fun k u e => ?_, r.inj⟩
  by_cases hk : n = k
  · subst hk
    rw [List.getElem?_set_self (r.ltL en)] at e
    cases e
    rw [en]; exact q
  · rw [List.getElem?_set_ne hk] at e
    refine (r.at' k u e).mono x fun b eb => upd_ne fun z => hk (r.inj n k a en (by rw [← z]; exact eb))
theorem Rel.kill (r : Rel K L H h) {n : Nat} (hn : n < h.length) : Ext L H (L.set n none) H ∧ Rel K (L.set n none) H (h.set n .dead) := by
  have hl : n < L.length := by rw [r.len]; exact hn
  have x : Ext L H (L.set n none) H := by
    refine ⟨fun k o e => ?_, fun a o e k => ⟨e, fun j z => ?_⟩, fun _ _ _ e => e⟩
    · by_cases hk : n = k
      · subst hk; exact .inr (List.getElem?_set_self hl)
      · rw [List.getElem?_set_ne hk]; exact .inl e
    · by_cases hj : n = j
      · subst hj; rw [List.getElem?_set_self hl] at z; cases z
      · rw [List.getElem?_set_ne hj] at z; exact k j z
  refine ⟨x, by rw [List.length_set, List.length_set]; exact r.len, fun k o e => ?_, fun k j a e1 e2 => ?_⟩
  · by_cases hk : n = k
    · subst hk
      rw [List.getElem?_set_self hn] at e
      cases e
      exact List.getElem?_set_self hl
    · rw [List.getElem?_set_ne hk] at e
      rw [List.getElem?_set_ne hk]
      exact (r.at' k o e).mono x fun _ _ => rfl
  · have f : ∀ i : Nat, (L.set n none)[i]? = some (some a) → L[i]? = some (some a) := fun i z => by
      by_cases hi : n = i
      · subst hi; rw [List.getElem?_set_self hl] at z; cases z
      · rw [List.getElem?_set_ne hi] at z; exact z
    exact r.inj k j a (f k e1) (f j e2)
theorem NL.kill {n : Nat} (r : Rel K L H h) (e : L[n]? = some (some a)) : NL (L.set n none) a := fun k z => by
  have hl : n < L.length := (List.getElem?_eq_some_iff.mp e).1
  by_cases hk : n = k
  · subst hk; rw [List.getElem?_set_self hl] at z; cases z
  · rw [List.getElem?_set_ne hk] at z
    exact hk (r.inj n k a e z)

mutual
def D.lows (n : Nat) : D → Bool
  | .ref k => decide (k < n)
  | .tup ds => lowsL n ds
  | .rol ds => lowsL n ds
  | .rdc _ ds => lowsL n ds
  | .xo _ _ _ ds => lowsL n ds
  | _ => true
def lowsL (n : Nat) : List D → Bool
  | [] => true
  | d :: ds => d.lows n && lowsL n ds
end
def MO.lows (n : Nat) : MO → Bool
  | .lst ds => lowsL n ds
  | .dic kvs => kvs.all fun p => p.2.lows n
  | .ldc kvs => kvs.all fun p => p.2.lows n
  | .ins _ fs => fs.all fun p => p.2.lows n
  | .dead => true
theorem take_at {L : TL} {k n : Nat} (hn : n < k) : (L.take k)[n]? = L[n]? := List.getElem?_take_of_lt hn
theorem NL.take (k : Nat) (n : NL L a) : NL (L.take k) a := fun i z => by
  by_cases hi : i < k
  · rw [take_at hi] at z; exact n i z
  · rw [List.getElem?_eq_none (by rw [List.length_take]; omega)] at z; cases z
mutual
theorem Rep.take {k : Nat} : ∀ {d : D} {v : V}, d.lows k = true → Rep K L H d v → Rep K (L.take k) H d v
  | .non, _, _, r => by unfold Rep at r ⊢; exact r
  | .bl _, _, _, r => by unfold Rep at r ⊢; exact r
  | .int _, _, _, r => by unfold Rep at r ⊢; exact r
  | .str _, _, _, r => by unfold Rep at r ⊢; exact r
  | .obj _, _, _, r => by unfold Rep at r ⊢; exact r
  | .ty _, _, _, r => by unfold Rep at r ⊢; exact r
  | .kon _, _, _, r => by unfold Rep at r ⊢; exact r
  | .rdc ks ds, _, b, r => by
    unfold Rep at r ⊢
    unfold D.lows at b
    obtain ⟨a, xs, e, s, n, l, q⟩ := r
    exact ⟨a, xs, e, s, n.take k, l, RepL.takeB b q⟩
  | .xo a d fl ds, _, b, r => by
    unfold Rep at r ⊢
    unfold D.lows at b
    obtain ⟨e, xs, s, n, l, q⟩ := r
    exact ⟨e, xs, s, n.take k, l, RepL.takeB b q⟩
  | .tup ds, _, b, r => by
    unfold Rep at r ⊢
    unfold D.lows at b
    obtain ⟨a, xs, e, s, q⟩ := r
    refine ⟨a, xs, e, ?_, RepL.takeB b q⟩
    rcases s with ⟨s, n⟩ | s
    · exact .inl ⟨s, n.take k⟩
    · exact .inr s
  | .rol ds, _, b, r => by
    unfold Rep at r ⊢
    unfold D.lows at b
    obtain ⟨a, xs, e, s, q⟩ := r
    refine ⟨a, xs, e, ?_, RepL.takeB b q⟩
    rcases s with ⟨s, n⟩ | s
    · exact .inl ⟨s, n.take k⟩
    · exact .inr s
  | .ref n, _, b, r => by
    unfold Rep at r ⊢
    unfold D.lows at b
    obtain ⟨a, e, q⟩ := r
    refine ⟨a, e, ?_⟩
    rw [take_at (of_decide_eq_true b)]
    exact q
theorem RepL.takeB {k : Nat} : ∀ {ds : List D} {vs : List V}, lowsL k ds = true → RepL K L H ds vs → RepL K (L.take k) H ds vs
  | [], _, _, r => by unfold RepL at r ⊢; exact r
  | d :: ds, _, b, r => by
    unfold RepL at r ⊢
    unfold lowsL at b
    obtain ⟨v, vs, e, q, w⟩ := r
    rw [Bool.and_eq_true] at b
    exact ⟨v, vs, e, Rep.take b.1 q, RepL.takeB b.2 w⟩
end
mutual
theorem Rep.lows : ∀ {d : D} {v : V}, Rep K L H d v → d.lows L.length = true
  | .non, _, _ => rfl
  | .bl _, _, _ => rfl
  | .int _, _, _ => rfl
  | .str _, _, _ => rfl
  | .obj _, _, _ => rfl
  | .ty _, _, _ => rfl
  | .kon _, _, _ => rfl
  | .rdc ks ds, _, r => by
    unfold Rep at r
    unfold D.lows
    obtain ⟨a, xs, e, s, n, l, q⟩ := r
    exact RepL.lows q
  | .xo a d fl ds, _, r => by
    unfold Rep at r
    unfold D.lows
    obtain ⟨e, xs, s, n, l, q⟩ := r
    exact RepL.lows q
  | .tup ds, _, r => by
    unfold Rep at r
    unfold D.lows
    obtain ⟨a, xs, e, s, q⟩ := r
    exact RepL.lows q
  | .rol ds, _, r => by
    unfold Rep at r
    unfold D.lows
    obtain ⟨a, xs, e, s, q⟩ := r
    exact RepL.lows q
  | .ref n, _, r => by
    unfold Rep at r
    unfold D.lows
    obtain ⟨a, e, q⟩ := r
    rcases q with q | q <;> exact decide_eq_true (List.getElem?_eq_some_iff.mp q).1
theorem RepL.lows : ∀ {ds : List D} {vs : List V}, RepL K L H ds vs → lowsL L.length ds = true
  | [], _, _ => rfl
  | d :: ds, _, r => by
    unfold RepL at r
    unfold lowsL
    obtain ⟨v, vs, e, q, w⟩ := r
    rw [Rep.lows q, RepL.lows w]; rfl
end
theorem RepK.lows : ∀ {ds : List (Key × D)} {vs}, RepK K L H ds vs → (ds.all fun p => p.2.lows L.length) = true
  | [], _, _ => rfl
  | d :: ds, _, ⟨v, vs, e, q, w⟩ => by rw [List.all_cons, q.lows, RepK.lows w]; rfl
theorem RepF.lows : ∀ {ds : List (Str × D)} {vs}, RepF K L H ds vs → (ds.all fun p => p.2.lows L.length) = true
  | [], _, _ => rfl
  | d :: ds, _, ⟨v, vs, e, q, w⟩ => by rw [List.all_cons, q.lows, RepF.lows w]; rfl
theorem RepK.take {k : Nat} : ∀ {ds : List (Key × D)} {vs}, (ds.all fun p => p.2.lows k) = true → RepK K L H ds vs → RepK K (L.take k) H ds vs
  | [], _, _, r => r
  | d :: ds, _, b, ⟨v, vs, e, q, w⟩ => by
    rw [List.all_cons, Bool.and_eq_true] at b
    exact ⟨v, vs, e, q.take b.1, RepK.take b.2 w⟩
theorem RepF.take {k : Nat} : ∀ {ds : List (Str × D)} {vs}, (ds.all fun p => p.2.lows k) = true → RepF K L H ds vs → RepF K (L.take k) H ds vs
  | [], _, _, r => r
  | d :: ds, _, b, ⟨v, vs, e, q, w⟩ => by
    rw [List.all_cons, Bool.and_eq_true] at b
    exact ⟨v, vs, e, q.take b.1, RepF.take b.2 w⟩
theorem OAt.lows {l : Option (Option Addr)} {o : MO} (q : OAt K L H l o) : o.lows L.length = true := by
  cases o with
  | dead => rfl
  | lst ds => obtain ⟨_, _, _, _, w⟩ := q; exact w.lows
  | dic ds => obtain ⟨_, _, _, _, w⟩ := q; exact w.lows
  | ldc ds => obtain ⟨_, _, _, _, _, w⟩ := q; exact w.lows
  | ins C ds => obtain ⟨_, _, _, _, _, _, w, _⟩ := q; exact w.lows
theorem OAt.take {k : Nat} {l : Option (Option Addr)} {o : MO} (b : o.lows k = true) (q : OAt K L H l o) : OAt K (L.take k) H l o := by
  cases o with
  | dead => exact q
  | lst ds => obtain ⟨a, xs, e1, e2, w⟩ := q; exact ⟨a, xs, e1, e2, w.takeB b⟩
  | dic ds => obtain ⟨a, xs, e1, e2, w⟩ := q; exact ⟨a, xs, e1, e2, w.take b⟩
  | ldc ds => obtain ⟨a, o, xs, e1, e2, w⟩ := q; exact ⟨a, o, xs, e1, e2, w.take b⟩
  | ins C ds => obtain ⟨a, dx, Ca, xs, e1, e2, w, hC⟩ := q; exact ⟨a, dx, Ca, xs, e1, e2, w.take b, hC⟩
def LeftOf (h h' : MH) : Prop := h.length ≤ h'.length ∧ ∀ (n : Nat) (o : MO), n < h.length → h'[n]? = some o → h[n]? = some o ∨ o.lows h.length = true
theorem Rel.leave (r : Rel K L H h) (r' : Rel K L' H' h') (x : Ext L H L' H') (l : LeftOf h h') : Ext L H (L'.take h.length) H' ∧ Rel K (L'.take h.length) H' (h'.take h.length) := by
  refine ⟨⟨fun n o e => ?_, fun a o e n => let ⟨e1, n1⟩ := x.kept a o e n; ⟨e1, n1.take _⟩, x.lkd⟩, by rw [List.length_take, List.length_take, r'.len], fun n o e => ?_, fun n m a e1 e2 => ?_⟩
  · rw [take_at (r.ltL e)]; exact x.live n o e
  · have hn : n < h.length := by
      have := (List.getElem?_eq_some_iff.mp e).1
      rw [List.length_take] at this; omega
    rw [List.getElem?_take_of_lt hn] at e
    rw [take_at hn]
    refine (r'.at' n o e).take ?_
    rcases l.2 n o hn e with z | z
    · rw [← r.len]; exact (r.at' n o z).lows
    · exact z
  · have f : ∀ i : Nat, (L'.take h.length)[i]? = some (some a) → L'[i]? = some (some a) := fun i z => by
      by_cases hi : i < h.length
      · rw [take_at hi] at z; exact z
      · rw [List.getElem?_eq_none (by rw [List.length_take]; omega)] at z; cases z
    exact r'.inj n m a (f n e1) (f m e2)
end
end MM
namespace MM
open PySem PySem.Spec PyProof.Rows L2
inductive R (α : Type) where
  | ok (a : α) (h : MH)
  | exc (c : Str) (fs : List (Str × D)) (h : MH)
  | stuck
def R.bnd {α β : Type} (r : R α) (f : α → MH → R β) : R β := match r with
  | .ok a h => f a h
  | .exc c fs h => .exc c fs h
  | .stuck => .stuck
@[simp] theorem R.bnd_ok {α β : Type} (a : α) (h : MH) (f : α → MH → R β) : (R.ok a h).bnd f = f a h := rfl
@[simp] theorem R.bnd_exc {α β : Type} (c fs) (h : MH) (f : α → MH → R β) : (R.exc c fs h).bnd f = .exc c fs h := rfl
@[simp] theorem R.bnd_stuck {α β : Type} (f : α → MH → R β) : (R.stuck).bnd f = .stuck := rfl
theorem R.bnd_assoc {α β γ : Type} (r : R α) (f : α → MH → R β) (g : β → MH → R γ) : (r.bnd f).bnd g = r.bnd fun a h => (f a h).bnd g := by cases r <;> rfl
abbrev ME := MS → MH → R D
abbrev MT := MS → MH → R Bool
abbrev MA := MS → MH → R (List D)
abbrev RP (α β : Type) := TL → Hp → α → β → Prop
def rpB : RP Bool Bool := fun _ _ a b => a = b

def Ans {α β : Type} (K : PySem.W.Frag) (rp : RP α β) (L : TL) (H : Hp) (r : R α) (Q : β → Hp → Prop) (E : XK) : Prop := match r with
  | .ok d h' => ∀ L' H' v, Ext L H L' H' → Rel K L' H' h' → rp L' H' d v → Q v H'
  | .exc c fs h' => ∀ L' H' dx xs, Ext L H L' H' → Rel K L' H' h' → H' dx = some (.xd xs) → RepF K L' H' fs xs → ∀ ev, EV K c ev → E ev (some dx) H'
  | .stuck => False
section
variable {α β γ δ' : Type} {K : PySem.W.Frag} {rp : RP α β} {rp2 : RP γ δ'} {L L' : TL} {H H' : Hp} {E : XK}
theorem Ans.mono {r : R α} {Q : β → Hp → Prop} (x : Ext L H L' H') (a : Ans K rp L H r Q E) : Ans K rp L' H' r Q E := by
  cases r with
  | ok d h => exact fun L2 H2 v e => a L2 H2 v (x.trans e)
  | exc c fs h => exact fun L2 H2 dx xs e => a L2 H2 dx xs (x.trans e)
  | stuck => exact a
theorem Ans.imp {r : R α} {Q Q' : β → Hp → Prop} (a : Ans K rp L H r Q E) (f : ∀ v H', Q v H' → Q' v H') : Ans K rp L H r Q' E := by
  cases r with
  | ok d h => exact fun L2 H2 v e r q => f _ _ (a L2 H2 v e r q)
  | exc c fs h => exact a
  | stuck => exact a
theorem Ans.bind {r : R α} {k : α → MH → R γ} {Q : δ' → Hp → Prop} (a : Ans K rp2 L H (r.bnd k) Q E) :
    Ans K rp L H r (fun v H1 => ∃ L1 h1 d, Ext L H L1 H1 ∧ Rel K L1 H1 h1 ∧ rp L1 H1 d v ∧ Ans K rp2 L1 H1 (k d h1) Q E) E := by
  cases r with
  | ok d h => exact fun L2 H2 v e r q => ⟨L2, h, d, e, r, q, Ans.mono e a⟩
  | exc c fs h => exact a
  | stuck => exact a
end
def tE (K : PySem.W.Frag) (W : WX) (m : ME) : TE := fun σ H Q => ∃ L h δ, Rel K L H h ∧ RepS K L H δ σ ∧ Ans K (Rep K) L H (m δ h) Q (WE W σ)
def tT (K : PySem.W.Frag) (W : WX) (m : MT) : TT := fun σ H Q => ∃ L h δ, Rel K L H h ∧ RepS K L H δ σ ∧ Ans K rpB L H (m δ h) Q (WE W σ)
def tA (K : PySem.W.Frag) (W : WX) (m : MA) : TA := fun σ H Q => ∃ L h δ, Rel K L H h ∧ RepS K L H δ σ ∧ Ans K (RepL K) L H (m δ h) Q (WE W σ)
def PEM (X : Cx) (W : WX) (e : Expr) (m : ME) : Prop := PE X e (tE X.K W m)
def PTM (X : Cx) (W : WX) (e : Expr) (m : MT) : Prop := PT X e (tT X.K W m)
def PWM (X : Cx) (W : WX) (e : Expr) (m : MT) : Prop := PW X e (tT X.K W m)
def PAM (X : Cx) (W : WX) (es : List Expr) (m : MA) : Prop := PA X es (tA X.K W m)
theorem _root_.L2.PE.imp {X : Cx} {e : Expr} {t t' : TE} (p : PE X e t) (h : ∀ σ H Q, t' σ H Q → t σ H Q) : PE X e t' := ⟨fun pins s σ H Q I q => p.run pins s σ H Q I (h σ H Q q)⟩
theorem _root_.L2.PT.imp {X : Cx} {e : Expr} {t t' : TT} (p : PT X e t) (h : ∀ σ H Q, t' σ H Q → t σ H Q) : PT X e t' := ⟨fun pins s σ H Q I q => p.run pins s σ H Q I (h σ H Q q)⟩
theorem _root_.L2.PW.imp {X : Cx} {e : Expr} {t t' : TT} (p : PW X e t) (h : ∀ σ H Q, t' σ H Q → t σ H Q) : PW X e t' := ⟨fun wh pins s σ H Q I q => p.run wh pins s σ H Q I (h σ H Q q)⟩
theorem _root_.L2.PA.imp {X : Cx} {e : List Expr} {t t' : TA} (p : PA X e t) (h : ∀ σ H Q, t' σ H Q → t σ H Q) : PA X e t' := ⟨fun wh pins s σ H Q I q => p.run wh pins s σ H Q I (h σ H Q q)⟩
theorem _root_.L2.PS.imp {X : Cx} {e : Stmt} {t t' : TS} (p : PS X e t) (h : ∀ D σ H, t' D σ H → t D σ H) : PS X e t' := ⟨fun pins s σ H Q I q => p.run pins s σ H Q I (h Q σ H q)⟩
theorem _root_.L2.PSs.imp {X : Cx} {e : List Stmt} {t t' : TS} (p : PSs X e t) (h : ∀ D σ H, t' D σ H → t D σ H) : PSs X e t' := ⟨fun pins s σ H Q I q => p.run pins s σ H Q I (h Q σ H q)⟩

def mVar (i : Nat) : ME := fun δ h => match δ[i]? with
  | some (some d) => .ok d h
  | _ => .stuck
def mC (d : D) : ME := fun _ h => .ok d h
section
variable {X : Cx} {W : WX} {pos : Pos} {a b c : Expr} {ma mb mc : ME}
theorem tE_val {K : PySem.W.Frag} {L : TL} {H : Hp} {h : MH} {d : D} {v : V} {Q : VK} {E : XK} (r : Rel K L H h) (q : Rep K L H d v) (a : Ans K (Rep K) L H (.ok d h) Q E) : Q v H := a L H v (Ext.refl L H) r q
theorem rep_none {K L H} : Rep K L H .non .non := by unfold Rep; rfl
theorem rep_bl {K L H} {b : Bool} : Rep K L H (.bl b) (.bl b) := by unfold Rep; rfl
theorem rep_int {K L H} {i : Int} : Rep K L H (.int i) (.int i) := by unfold Rep; rfl
theorem rep_str {K L H} {s : Str} : Rep K L H (.str s) (.str s) := by unfold Rep; rfl
theorem rep_ty {K L H} {n : String} : Rep K L H (.ty n) (.ty n) := by unfold Rep; rfl
theorem pem_var {i : Nat} {x : Str} (h : PE X (.Name x pos) (tVar i)) : PEM X W (.Name x pos) (mVar i) := by
  refine PE.imp h fun σ H Q ⟨L, h, δ, r, s, a⟩ => ?_
  unfold mVar at a
  split at a
  · rename_i d e
    obtain ⟨v, e1, q⟩ := s.at' i d e
    exact ⟨v, e1, tE_val r q a⟩
  · exact a.elim
theorem pem_c {e : Expr} {d : D} {v : V} (h : PE X e (tC v)) (q : ∀ L H, Rep X.K L H d v) : PEM X W e (mC d) :=
  PE.imp h fun σ H Q ⟨L, h, δ, r, s, a⟩ => tE_val r (q L H) a
theorem pem_int {i j} : PEM X W (.Constant (.int i) j pos) (mC (.int i)) := pem_c pe_int fun _ _ => rep_int
theorem pem_bl {i j} : PEM X W (.Constant (.bool i) j pos) (mC (.bl i)) := pem_c pe_bl fun _ _ => rep_bl
theorem pem_non {j} : PEM X W (.Constant .none j pos) (mC .non) := pem_c pe_non fun _ _ => rep_none
theorem pem_str {i j} : PEM X W (.Constant (.str i) j pos) (mC (.str i)) := pem_c pe_str fun _ _ => rep_str

def mOp (f : D → D → MH → R D) (a b : ME) : ME := fun δ h => (a δ h).bnd fun x h1 => (b δ h1).bnd fun y h2 => f x y h2
def mUn (f : D → MH → R D) (a : ME) : ME := fun δ h => (a δ h).bnd fun x h1 => f x h1
def OpM (K : PySem.W.Frag) (r : R2) (f : D → D → MH → R D) : Prop := ∀ (L : TL) (H : Hp) (h : MH) (dx dy : D) (x y : V) (Q : VK) (E : XK), Rel K L H h → Rep K L H dx x → Rep K L H dy y → Ans K (Rep K) L H (f dx dy h) Q E → r x y H Q
def UnM (K : PySem.W.Frag) (r : V → Hp → VK → Prop) (f : D → MH → R D) : Prop := ∀ (L : TL) (H : Hp) (h : MH) (dx : D) (x : V) (Q : VK) (E : XK), Rel K L H h → Rep K L H dx x → Ans K (Rep K) L H (f dx h) Q E → r x H Q
theorem tOp_of {K : PySem.W.Frag} {W : WX} {r : R2} {f : D → D → MH → R D} (hm : OpM K r f) {σ : L2.St} {H : Hp} {Q : VK} (t : tE K W (mOp f ma mb) σ H Q) : tOp r (tE K W ma) (tE K W mb) σ H Q := by
  obtain ⟨L, h, δ, r0, s, a⟩ := t
  refine ⟨L, h, δ, r0, s, Ans.imp a.bind fun v H1 ⟨L1, h1, d, x1, r1, p1, a1⟩ => ⟨L1, h1, δ, r1, s.mono x1, Ans.imp a1.bind fun u H2 ⟨L2, h2, d2, x2, r2, p2, a2⟩ => ?_⟩⟩
  exact hm L2 H2 h2 d d2 v u Q _ r2 (p1.mono x2) p2 a2
theorem pem_op {op : Operator} {r : R2} {f : D → D → MH → R D} (ho : OpR X (binaryOp op) r) (hm : OpM X.K r f) (ha : PEM X W a ma) (hb : PEM X W b mb) : PEM X W (.BinOp a op b pos) (mOp f ma mb) :=
  PE.imp (pe_op ho ha hb) fun _ _ _ t => tOp_of hm t
theorem pem_cmp {op : CmpOp} {r : R2} {f : D → D → MH → R D} (ho : OpR X (compareOp op) r) (hm : OpM X.K r f) (hn : behindInMarks op b = false) (ha : PEM X W a ma) (hb : PEM X W b mb) : PEM X W (.Compare a [op] [b] pos) (mOp f ma mb) :=
  PE.imp (pe_cmpR ho ha hb hn) fun _ _ _ t => tOp_of hm t
theorem pem_un {op : UnaryOp} {r : V → Hp → VK → Prop} {f : D → MH → R D} (ho : UnR X (unaryOp op) r) (hm : UnM X.K r f) (ha : PEM X W a ma) : PEM X W (.UnaryOp op a pos) (mUn f ma) := by
  refine PE.imp (pe_un ho ha) fun σ H Q ⟨L, h, δ, r0, s, a⟩ => ?_
  exact ⟨L, h, δ, r0, s, Ans.imp a.bind fun v H1 ⟨L1, h1, d, x1, r1, p1, a1⟩ => hm L1 H1 h1 d v Q _ r1 p1 a1⟩
def isB (d : D) (h : MH) : R Bool := match d with
  | .bl b => .ok b h
  | _ => .stuck
def mB (m : ME) : MT := fun δ h => (m δ h).bnd isB
theorem ans_isB {K L H h d v} {Q : Bool → Hp → Prop} {E : XK} (r : Rel K L H h) (q : Rep K L H d v) (a : Ans K rpB L H (isB d h) Q E) : ∃ k, v = .bl k ∧ Q k H := by
  cases d with
  | bl b =>
    unfold Rep at q
    exact ⟨b, q, a L H b (Ext.refl _ _) r rfl⟩
  | _ => exact a.elim
theorem ptm_cmp {op : CmpOp} {r : R2} {f : D → D → MH → R D} (ho : OpR X (compareOp op) r) (hm : OpM X.K r f) (hn : behindInMarks op b = false) (ha : PEM X W a ma) (hb : PEM X W b mb) : PTM X W (.Compare a [op] [b] pos) (mB (mOp f ma mb)) := by
  refine PT.imp (pt_cmpR ho ha hb hn) fun σ H Q ⟨L, h, δ, r0, s, a⟩ => ?_
  refine tOp_of hm (K := X.K) (W := W) ⟨L, h, δ, r0, s, Ans.imp (Ans.bind (rp := Rep X.K) a) fun v H1 ⟨L1, h1, d, x1, r1, p1, a1⟩ => ?_⟩
  exact ans_isB r1 p1 a1
def lst? (h : MH) (n : Nat) : Option (List D) := match h[n]? with
  | some (.lst ds) => some ds
  | _ => none
def dic? (h : MH) (n : Nat) : Option (List (Key × D)) := match h[n]? with
  | some (.dic ds) => some ds
  | _ => none
def lstD (d : D) (h : MH) : Option (List D) := match d with
  | .rol ds => some ds
  | .ref n => lst? h n
  | _ => none
def dicD (d : D) (h : MH) : Option (List (Key × D)) := match d with
  | .ref n => dic? h n
  | _ => none
theorem lst?_at {h : MH} {n : Nat} {ds} (e : lst? h n = some ds) : h[n]? = some (.lst ds) := by
  unfold lst? at e
  split at e
  · rename_i z; cases e; exact z
  · cases e
theorem dic?_at {h : MH} {n : Nat} {ds} (e : dic? h n = some ds) : h[n]? = some (.dic ds) := by
  unfold dic? at e
  split at e
  · rename_i z; cases e; exact z
  · cases e
def truD (d : D) (h : MH) : R Bool := match d with
  | .non => .ok false h
  | .bl b => .ok b h
  | .int i => .ok (i != 0) h
  | .str s => if s.length ≤ 16777216 then .ok ((s.length : Int) != 0) h else .stuck
  | .tup ds => .ok (!ds.isEmpty) h
  | d => match lstD d h with
    | some ds => .ok (!ds.isEmpty) h
    | none => match dicD d h with
      | some kvs => .ok (!kvs.isEmpty) h
      | none => .stuck
def mTru (m : ME) : MT := fun δ h => (m δ h).bnd truD
theorem SF.sq {K L H a xs} (s : SF K L H a xs) : SqL K H a xs := by
  rcases s with ⟨s, _⟩ | s
  · exact .inl s
  · exact .inr s
theorem SU.sq {K L H a xs} (s : SU K L H a xs) : SqT K H a xs := by
  rcases s with ⟨s, _⟩ | s
  · exact .inl s
  · exact .inr s
theorem RepL.empty {K L H ds vs} (r : RepL K L H ds vs) : ds.isEmpty = vs.isEmpty := by
  have := r.length
  cases ds <;> cases vs <;> simp_all
theorem RepK.empty {K L H} : ∀ {ds : List (Key × D)} {vs}, RepK K L H ds vs → ds.isEmpty = vs.isEmpty
  | [], _, r => by cases r; rfl
  | d :: ds, _, ⟨v, vs, e, _, _⟩ => by subst e; rfl
theorem Rel.lst {K L H} {h : MH} {n : Nat} {ds} (r : Rel K L H h) (e : h[n]? = some (.lst ds)) : ∃ a xs, L[n]? = some (some a) ∧ H a = some (.lst xs) ∧ RepL K L H ds xs := r.at' n _ e
theorem Rel.dic {K L H} {h : MH} {n : Nat} {ds} (r : Rel K L H h) (e : h[n]? = some (.dic ds)) : ∃ a xs, L[n]? = some (some a) ∧ H a = some (.dK xs) ∧ RepK K L H ds xs := r.at' n _ e
theorem Rep.ref {K L H} {n : Nat} {v a} (q : Rep K L H (.ref n) v) (e : L[n]? = some (some a)) : v = .ref a := by
  unfold Rep at q
  obtain ⟨b, e1, z | z⟩ := q
  · rw [e] at z; cases z; exact e1
  · rw [e] at z; cases z
theorem lstD_of {K L H} {h : MH} {d v ds} (r : Rel K L H h) (q : Rep K L H d v) (e : lstD d h = some ds) : ∃ p xs, v = .ref p ∧ SqL K H p xs ∧ RepL K L H ds xs := by
  cases d with
  | rol es =>
    cases e
    unfold Rep at q
    obtain ⟨p, xs, rfl, s, w⟩ := q
    exact ⟨p, xs, rfl, s.sq, w⟩
  | ref n =>
    obtain ⟨p, xs, e1, e2, w⟩ := r.lst (lst?_at e)
    exact ⟨p, xs, q.ref e1, SqL.of e2, w⟩
  | _ => cases e
theorem dicD_of {K L H} {h : MH} {d v ds} (r : Rel K L H h) (q : Rep K L H d v) (e : dicD d h = some ds) : ∃ p xs, v = .ref p ∧ H p = some (.dK xs) ∧ RepK K L H ds xs := by
  cases d with
  | ref n =>
    obtain ⟨p, xs, e1, e2, w⟩ := r.dic (dic?_at e)
    exact ⟨p, xs, q.ref e1, e2, w⟩
  | _ => cases e
theorem tup_of {K L H} {v ds} (q : Rep K L H (.tup ds) v) : ∃ p xs, v = .ref p ∧ SqT K H p xs ∧ RepL K L H ds xs := by
  unfold Rep at q
  obtain ⟨p, xs, rfl, s, w⟩ := q
  exact ⟨p, xs, rfl, s.sq, w⟩
theorem ans_okB {K L H} {h : MH} {b : Bool} {Q : Bool → Hp → Prop} {E : XK} (r : Rel K L H h) (a : Ans K rpB L H (.ok b h) Q E) : Q b H := a L H b (Ext.refl _ _) r rfl
theorem ans_tru {K L H} {h : MH} {d v} {Q : Bool → Hp → Prop} {E : XK} (r : Rel K L H h) (q : Rep K L H d v) (a : Ans K rpB L H (truD d h) Q E) : ∃ k, TruV K v H k ∧ Q k H := by
  have big : ∀ d, truD d h = (match lstD d h with
    | some ds => .ok (!ds.isEmpty) h
    | none => match dicD d h with
      | some kvs => .ok (!kvs.isEmpty) h
      | none => .stuck) → Rep K L H d v → Ans K rpB L H (truD d h) Q E → ∃ k, TruV K v H k ∧ Q k H := fun d e q a => by
    rw [e] at a
    cases e1 : lstD d h with
    | some ds =>
      rw [e1] at a
      obtain ⟨p, xs, rfl, s, w⟩ := lstD_of r q e1
      exact ⟨_, .inl ⟨xs, s, rfl⟩, by rw [← w.empty]; exact ans_okB r a⟩
    | none =>
      rw [e1] at a
      cases e2 : dicD d h with
      | some ds =>
        rw [e2] at a
        obtain ⟨p, xs, rfl, s, w⟩ := dicD_of r q e2
        exact ⟨_, .inr (.inr ⟨xs, s, rfl⟩), by rw [← w.empty]; exact ans_okB r a⟩
      | none => rw [e2] at a; exact a.elim
  cases d with
  | non => unfold Rep at q; subst q; exact ⟨_, rfl, ans_okB r a⟩
  | bl b => unfold Rep at q; subst q; exact ⟨_, rfl, ans_okB r a⟩
  | int b => unfold Rep at q; subst q; exact ⟨_, rfl, ans_okB r a⟩
  | str s =>
    unfold Rep at q; subst q
    by_cases hs : s.length ≤ 16777216
    · rw [show truD (.str s) h = .ok ((s.length : Int) != 0) h from if_pos hs] at a
      exact ⟨_, ⟨by rw [sizeLine_eq]; exact hs, rfl⟩, ans_okB r a⟩
    · rw [show truD (.str s) h = .stuck from if_neg hs] at a; exact a.elim
  | tup ds =>
    obtain ⟨p, xs, rfl, s, w⟩ := tup_of q
    exact ⟨_, .inr (.inl ⟨xs, s, rfl⟩), by rw [← w.empty]; exact ans_okB r a⟩
  | rol ds => exact big _ rfl q a
  | ref n => exact big _ rfl q a
  | obj _ => exact a.elim
  | ty _ => exact a.elim
  | kon _ => exact a.elim
  | rdc _ _ => exact a.elim
  | xo _ _ _ _ => exact a.elim
theorem ptm_val (ha : PEM X W a ma) (he : ∀ whole, isTrue a X.env whole = (do let v ← whole; standAt a.pos; holding [v] (truthy v)) := by intro _; rfl) : PTM X W a (mTru ma) := by
  refine PT.imp (pt_truth ha he) fun σ H Q ⟨L, h, δ, r0, s, a⟩ => ?_
  exact ⟨L, h, δ, r0, s, Ans.imp a.bind fun v H1 ⟨L1, h1, d, x1, r1, p1, a1⟩ => ans_tru r1 p1 a1⟩
def mNot (m : MT) : MT := fun δ h => (m δ h).bnd fun b h1 => .ok (!b) h1
def mAnd (m n : MT) : MT := fun δ h => (m δ h).bnd fun b h1 => if b then n δ h1 else .ok false h1
def mOr (m n : MT) : MT := fun δ h => (m δ h).bnd fun b h1 => if b then .ok true h1 else n δ h1
variable {na nb : MT} {rest : List Expr}
theorem tT_ok {K L H h} {b : Bool} {Q : Bool → Hp → Prop} {E : XK} (r : Rel K L H h) (a : Ans K rpB L H (.ok b h) Q E) : Q b H := a L H b (Ext.refl _ _) r rfl
theorem ptm_not (ha : PTM X W a na) : PTM X W (.UnaryOp .Not a pos) (mNot na) := by
  refine PT.imp (pt_not ha) fun σ H Q ⟨L, h, δ, r0, s, a⟩ => ?_
  refine ⟨L, h, δ, r0, s, Ans.imp (Ans.bind (rp := rpB) a) fun v H1 ⟨L1, h1, d, x1, r1, p1, a1⟩ => ?_⟩
  cases p1
  exact tT_ok r1 a1
theorem pwm_and1 (ha : PTM X W a na) : PWM X W (.BoolOp .And [a] pos) na := pw_and1 ha
theorem pwm_or1 (ha : PTM X W a na) : PWM X W (.BoolOp .Or [a] pos) na := pw_or1 ha
theorem pwm_and (ha : PTM X W a na) (hb : PWM X W (.BoolOp .And (b :: rest) pos) nb) : PWM X W (.BoolOp .And (a :: b :: rest) pos) (mAnd na nb) := by
  refine PW.imp (pw_and ha hb) fun σ H Q ⟨L, h, δ, r0, s, a⟩ => ?_
  refine ⟨L, h, δ, r0, s, Ans.imp (Ans.bind (rp := rpB) a) fun v H1 ⟨L1, h1, d, x1, r1, p1, a1⟩ => ?_⟩
  cases p1
  cases v with
  | true => exact ⟨L1, h1, δ, r1, s.mono x1, a1⟩
  | false => exact tT_ok r1 a1
theorem pwm_or (ha : PTM X W a na) (hb : PWM X W (.BoolOp .Or (b :: rest) pos) nb) : PWM X W (.BoolOp .Or (a :: b :: rest) pos) (mOr na nb) := by
  refine PW.imp (pw_or ha hb) fun σ H Q ⟨L, h, δ, r0, s, a⟩ => ?_
  refine ⟨L, h, δ, r0, s, Ans.imp (Ans.bind (rp := rpB) a) fun v H1 ⟨L1, h1, d, x1, r1, p1, a1⟩ => ?_⟩
  cases p1
  cases v with
  | false => exact ⟨L1, h1, δ, r1, s.mono x1, a1⟩
  | true => exact tT_ok r1 a1
theorem ptm_w (h : PWM X W a na) : PTM X W a na := PW.pt h
def mIf (t : MT) (a b : ME) : ME := fun δ h => (t δ h).bnd fun c h1 => if c then a δ h1 else b δ h1
theorem pem_if (hc : PTM X W c na) (ha : PEM X W a ma) (hb : PEM X W b mb) : PEM X W (.IfExp c a b pos) (mIf na ma mb) := by
  refine PE.imp (pe_ifExp hc ha hb) fun σ H Q ⟨L, h, δ, r0, s, a⟩ => ?_
  refine ⟨L, h, δ, r0, s, Ans.imp (Ans.bind (rp := rpB) a) fun v H1 ⟨L1, h1, d, x1, r1, p1, a1⟩ => ?_⟩
  cases p1
  cases v with
  | true => exact ⟨L1, h1, δ, r1, s.mono x1, a1⟩
  | false => exact ⟨L1, h1, δ, r1, s.mono x1, a1⟩
theorem isB_inv {α β : Type} {rp : RP α β} {K L H} {h : MH} {d : D} {k : Bool → MH → R α} {Q : β → Hp → Prop} {E : XK} (a : Ans K rp L H ((isB d h).bnd k) Q E) : ∃ b, d = .bl b ∧ Ans K rp L H (k b h) Q E := by
  cases d with
  | bl b => exact ⟨b, rfl, a⟩
  | _ => exact a.elim
theorem rep_bl_inv {K L H b v} (q : Rep K L H (.bl b) v) : v = .bl b := by unfold Rep at q; exact q
theorem ans_okE {K L H} {h : MH} {d : D} {v : V} {Q : VK} {E : XK} (r : Rel K L H h) (q : Rep K L H d v) (a : Ans K (Rep K) L H (.ok d h) Q E) : Q v H := a L H v (Ext.refl L H) r q
def mAndV (m n : ME) : ME := fun δ h => (m δ h).bnd fun x h1 => (isB x h1).bnd fun b h2 => if b then n δ h2 else .ok (.bl false) h2
def mOrV (m n : ME) : ME := fun δ h => (m δ h).bnd fun x h1 => (isB x h1).bnd fun b h2 => if b then .ok (.bl true) h2 else n δ h2
def mNotV (m : ME) : ME := fun δ h => (m δ h).bnd fun x h1 => (isB x h1).bnd fun b h2 => .ok (.bl (!b)) h2
def mChain (f g : D → D → MH → R D) (a b c : ME) : ME := fun δ h => (a δ h).bnd fun x h1 => (b δ h1).bnd fun y h2 => (f x y h2).bnd fun z h3 => (isB z h3).bnd fun t h4 =>
  if t then (c δ h4).bnd fun w h5 => g y w h5 else .ok (.bl false) h4
theorem tChain_of {K : PySem.W.Frag} {r r' : R2} {f g : D → D → MH → R D} (hm : OpM K r f) (hm' : OpM K r' g) {σ : L2.St} {H : Hp} {Q : VK} (t : tE K W (mChain f g ma mb mc) σ H Q) : tChain r r' (tE K W ma) (tE K W mb) (tE K W mc) σ H Q := by
  obtain ⟨L, h, δ, r0, s, a⟩ := t
  refine ⟨L, h, δ, r0, s, Ans.imp (Ans.bind (rp := Rep K) a) fun v H1 ⟨L1, h1, d, x1, r1, p1, a1⟩ => ⟨L1, h1, δ, r1, s.mono x1, Ans.imp (Ans.bind (rp := Rep K) a1) fun u H2 ⟨L2, h2, d2, x2, r2, p2, a2⟩ => ?_⟩⟩
  refine hm L2 H2 h2 d d2 v u _ _ r2 (p1.mono x2) p2 (Ans.imp (Ans.bind (rp := Rep K) a2) fun z H3 ⟨L3, h3, d3, x3, r3, p3, a3⟩ => ?_)
  obtain ⟨b, rfl, a4⟩ := isB_inv a3
  refine ⟨b, rep_bl_inv p3, ?_⟩
  cases b with
  | false => exact iteF (ans_okE r3 rep_bl a4)
  | true =>
    refine iteT (show tE K W mc σ H3 _ from ?_)
    refine ⟨L3, h3, δ, r3, s.mono (x1.trans (x2.trans x3)), Ans.imp (Ans.bind (rp := Rep K) a4) fun w H4 ⟨L4, h4, d4, x4, r4, p4, a5⟩ => ?_⟩
    exact hm' L4 H4 h4 d2 d4 u w Q _ r4 (p2.mono (x3.trans x4)) p4 a5
theorem pem_chain {op op' : CmpOp} {r r' : R2} {f g : D → D → MH → R D} (ho : OpR X (compareOp op) r) (ho' : OpR X (compareOp op') r') (hm : OpM X.K r f) (hm' : OpM X.K r' g) (ha : PEM X W a ma) (hb : PEM X W b mb) (hc : PEM X W c mc)
    (h1 : lastMarks [op, op'] [b, c] = false) : PEM X W (.Compare a [op, op'] [b, c] pos) (mChain f g ma mb mc) :=
  PE.imp (pe_chain ho ho' ha hb hc h1) fun _ _ _ t => tChain_of hm hm' t
end
end MM
namespace MM
open PySem PySem.Spec PyProof.Rows L2
inductive Fl where
  | next (δ : MS) | ret (d : D) | brk (δ : MS) | cont (δ : MS)
inductive SR where
  | ok (f : Fl) (h : MH)
  | exc (c : Str) (fs : List (Str × D)) (δ : MS) (h : MH)
  | stuck
abbrev MSt := MS → MH → SR
def AnsF (K : PySem.W.Frag) (D : Ends) (L : TL) (H : Hp) (f : Fl) (h' : MH) : Prop := match f with
  | .next δ => ∀ L' H' σ', Ext L H L' H' → Rel K L' H' h' → RepS K L' H' δ σ' → D.nx σ' H'
  | .ret d => ∀ L' H' v, Ext L H L' H' → Rel K L' H' h' → Rep K L' H' d v → D.rt v H'
  | .brk δ => ∀ L' H' σ', Ext L H L' H' → Rel K L' H' h' → RepS K L' H' δ σ' → D.bk σ' H'
  | .cont δ => ∀ L' H' σ', Ext L H L' H' → Rel K L' H' h' → RepS K L' H' δ σ' → D.ct σ' H'
def AnsS (K : PySem.W.Frag) (D : Ends) (W : WX) (L : TL) (H : Hp) (r : SR) : Prop := match r with
  | .ok f h' => AnsF K D L H f h'
  | .exc c fs δ h' => ∀ L' H' σ' dx xs, Ext L H L' H' → Rel K L' H' h' → RepS K L' H' δ σ' → H' dx = some (.xd xs) → RepF K L' H' fs xs → ∀ ev, EV K c ev → W ev (some dx) σ' H'
  | .stuck => False
def tS (K : PySem.W.Frag) (W : WX) (m : MSt) : TS := fun D σ H => ∃ L h δ, Rel K L H h ∧ RepS K L H δ σ ∧ AnsS K D W L H (m δ h)
def PSM (X : Cx) (W : WX) (st : Stmt) (m : MSt) : Prop := PS X st (tS X.K W m)
def PSsM (X : Cx) (W : WX) (st : List Stmt) (m : MSt) : Prop := PSs X st (tS X.K W m)
def R.st {α : Type} (r : R α) (δ : MS) (k : α → MH → SR) : SR := match r with
  | .ok a h => k a h
  | .exc c fs h => .exc c fs δ h
  | .stuck => .stuck
@[simp] theorem R.st_ok {α : Type} (a : α) (h : MH) (δ) (k : α → MH → SR) : (R.ok a h).st δ k = k a h := rfl
@[simp] theorem R.st_exc {α : Type} (c fs) (h : MH) (δ) (k : α → MH → SR) : (R.exc c fs h).st δ k = .exc c fs δ h := rfl
@[simp] theorem R.st_stuck {α : Type} (δ) (k : α → MH → SR) : (R.stuck).st δ k = .stuck := rfl
section
variable {α β : Type} {K : PySem.W.Frag} {rp : RP α β} {L L' : TL} {H H' : Hp} {D D' : Ends} {W : WX}
theorem AnsF.mono {f : Fl} {h : MH} (x : Ext L H L' H') (a : AnsF K D L H f h) : AnsF K D L' H' f h := by
  cases f with
  | next δ => exact fun L2 H2 v e => a L2 H2 v (x.trans e)
  | ret δ => exact fun L2 H2 v e => a L2 H2 v (x.trans e)
  | brk δ => exact fun L2 H2 v e => a L2 H2 v (x.trans e)
  | cont δ => exact fun L2 H2 v e => a L2 H2 v (x.trans e)
theorem AnsS.mono {r : SR} (x : Ext L H L' H') (a : AnsS K D W L H r) : AnsS K D W L' H' r := by
  cases r with
  | ok f h => exact AnsF.mono x a
  | exc c fs δ h => exact fun L2 H2 s dx xs e => a L2 H2 s dx xs (x.trans e)
  | stuck => exact a
theorem AnsS.bind {r : R α} {δ : MS} {σ : L2.St} {k : α → MH → SR} (s : RepS K L H δ σ) (a : AnsS K D W L H (r.st δ k)) :
    Ans K rp L H r (fun v H1 => ∃ L1 h1 d, Ext L H L1 H1 ∧ Rel K L1 H1 h1 ∧ rp L1 H1 d v ∧ RepS K L1 H1 δ σ ∧ AnsS K D W L1 H1 (k d h1)) (WE W σ) := by
  cases r with
  | ok d h => exact fun L2 H2 v e r q => ⟨L2, h, d, e, r, q, s.mono e, AnsS.mono e a⟩
  | exc c fs h => exact fun L2 H2 dx xs e r q1 q2 => a L2 H2 σ dx xs e r (s.mono e) q1 q2
  | stuck => exact a
theorem AnsS.nx {δ : MS} {h : MH} {σ : L2.St} (r : Rel K L H h) (s : RepS K L H δ σ) (a : AnsS K D W L H (.ok (.next δ) h)) : D.nx σ H := a L H σ (Ext.refl _ _) r s
theorem AnsS.rt {d : MM.D} {h : MH} {v : V} (r : Rel K L H h) (s : Rep K L H d v) (a : AnsS K D W L H (.ok (.ret d) h)) : D.rt v H := a L H v (Ext.refl _ _) r s
end
def mNext : MSt := fun δ h => .ok (.next δ) h
def SR.seq (r : SR) (k : MSt) : SR := match r with
  | .ok (.next δ) h => k δ h
  | r => r
def mSeq (a b : MSt) : MSt := fun δ h => (a δ h).seq b
@[simp] theorem SR.seq_next (δ h k) : (SR.ok (.next δ) h).seq k = k δ h := rfl
@[simp] theorem SR.seq_ret (δ h k) : (SR.ok (.ret δ) h).seq k = .ok (.ret δ) h := rfl
@[simp] theorem SR.seq_brk (δ h k) : (SR.ok (.brk δ) h).seq k = .ok (.brk δ) h := rfl
@[simp] theorem SR.seq_cont (δ h k) : (SR.ok (.cont δ) h).seq k = .ok (.cont δ) h := rfl
@[simp] theorem SR.seq_exc (c fs δ h k) : (SR.exc c fs δ h).seq k = .exc c fs δ h := rfl
section
variable {X : Cx} {W : WX} {pos : Pos} {e : Expr} {me : ME} {st : Stmt} {rest body : List Stmt} {ma mb : MSt}
theorem pssm_nil : PSsM X W [] mNext := PSs.imp pss_nil fun D σ H ⟨L, h, δ, r, s, a⟩ => a.nx r s
theorem tSeq_of {K : PySem.W.Frag} {D : Ends} {σ : L2.St} {H : Hp} (t : tS K W (mSeq ma mb) D σ H) : tSeq (tS K W ma) (tS K W mb) D σ H := by
  obtain ⟨L, h, δ, r, s, a⟩ := t
  refine ⟨L, h, δ, r, s, ?_⟩
  unfold mSeq at a
  generalize ma δ h = m at a
  cases m with
  | ok f h1 =>
    cases f with
    | next δ1 => exact fun L1 H1 σ1 x1 r1 s1 => ⟨L1, h1, δ1, r1, s1, a.mono x1⟩
    | ret d => exact a
    | brk d => exact a
    | cont d => exact a
  | exc c fs δ h1 => exact a
  | stuck => exact a
theorem pssm_cons (h1 : PSM X W st ma) (h2 : PSsM X W rest mb) : PSsM X W (st :: rest) (mSeq ma mb) := PSs.imp (pss_cons h1 h2) fun _ _ _ t => tSeq_of t
theorem pssm_one (h1 : PSM X W st ma) : PSsM X W [st] ma := pss_one h1
def mBrk : MSt := fun δ h => .ok (.brk δ) h
def mCont : MSt := fun δ h => .ok (.cont δ) h
theorem psm_pass : PSM X W (.Pass pos) mNext := PS.imp ps_pass fun D σ H ⟨L, h, δ, r, s, a⟩ => a.nx r s
def mDrop (m : ME) : MSt := fun δ h => (m δ h).st δ fun _ h1 => .ok (.next δ) h1
theorem psm_expr (he : PEM X W e me) (hs : swapsWith e none pos.line X.env = pure false := by rfl) : PSM X W (.Expr e pos) (mDrop me) :=
  PS.imp (ps_expr he hs) fun D σ H ⟨L, h, δ, r, s, a⟩ => ⟨L, h, δ, r, s, Ans.imp (AnsS.bind (rp := Rep X.K) s a) fun v H1 ⟨L1, h1, d, x1, r1, p1, s1, a1⟩ => a1.nx r1 s1⟩
def mRet (m : ME) : MSt := fun δ h => (m δ h).st δ fun d h1 => .ok (.ret d) h1
theorem psm_ret (he : PEM X W e me) : PSM X W (.Return (some e) pos) (mRet me) :=
  PS.imp (ps_ret he) fun D σ H ⟨L, h, δ, r, s, a⟩ => ⟨L, h, δ, r, s, Ans.imp (AnsS.bind (rp := Rep X.K) s a) fun v H1 ⟨L1, h1, d, x1, r1, p1, s1, a1⟩ => a1.rt r1 p1⟩
def mIfS (t : MT) (a b : MSt) : MSt := fun δ h => (t δ h).st δ fun c h1 => if c then a δ h1 else b δ h1
theorem psm_if {c : Expr} {a b : List Stmt} {mt : MT} (hc : PTM X W c mt) (ha : PSsM X W a ma) (hb : PSsM X W b mb) : PSM X W (.If c a b pos) (mIfS mt ma mb) := by
  refine PS.imp (ps_if hc ha hb) fun D σ H ⟨L, h, δ, r, s, a⟩ => ?_
  refine ⟨L, h, δ, r, s, Ans.imp (AnsS.bind (rp := rpB) s a) fun v H1 ⟨L1, h1, d, x1, r1, p1, s1, a1⟩ => ?_⟩
  cases p1
  cases v with
  | true => exact iteT (show tS X.K W ma D σ H1 from ⟨L1, h1, δ, r1, s1, a1⟩)
  | false => exact iteF (show tS X.K W mb D σ H1 from ⟨L1, h1, δ, r1, s1, a1⟩)
abbrev MG := D → MS → Option MS
abbrev MGs := List D → MS → Option MS
def Only (S : List Nat) (σ σ' : L2.St) : Prop := σ'.length = σ.length ∧ ∀ i : Nat, i ∉ S → σ'[i]? = σ[i]?
def tG (K : PySem.W.Frag) (S : List Nat) (g : MG) : TG := fun v σ H Q => ∃ L h δ d, Rel K L H h ∧ RepS K L H δ σ ∧ Rep K L H d v ∧ ∃ δ', g d δ = some δ' ∧ ∀ σ', RepS K L H δ' σ' → Only S σ σ' → Q σ' H
def tGs (K : PySem.W.Frag) (S : List Nat) (g : MGs) : TGs := fun vs σ H Q => ∃ L h δ ds, Rel K L H h ∧ RepS K L H δ σ ∧ RepL K L H ds vs ∧ ∃ δ', g ds δ = some δ' ∧ ∀ σ', RepS K L H δ' σ' → Only S σ σ' → Q σ' H
theorem _root_.L2.PG.imp {X : Cx} {e : Expr} {t t' : TG} (p : PG X e t) (h : ∀ v σ H Q, t' v σ H Q → t v σ H Q) : PG X e t' :=
  ⟨fun pins s σ H v u Q I r q => p.run pins s σ H v u Q I r (h _ _ _ _ q)⟩
theorem _root_.L2.PGs.imp {X : Cx} {e : List Expr} {t t' : TGs} (p : PGs X e t) (h : ∀ v σ H Q, t' v σ H Q → t v σ H Q) : PGs X e t' :=
  ⟨fun pins s σ H v u Q I r q => p.run pins s σ H v u Q I r (h _ _ _ _ q)⟩
def PGM (X : Cx) (e : Expr) (S : List Nat) (g : MG) : Prop := PG X e (tG X.K S g)
def PGsM (X : Cx) (e : List Expr) (S : List Nat) (g : MGs) : Prop := PGs X e (tGs X.K S g)
def mgName (i : Nat) : MG := fun d δ => some (δ.set i (some d))
theorem Only.set {σ : L2.St} {i : Nat} {v : Option V} : Only [i] σ (σ.set i v) := ⟨List.length_set .., fun j hj => List.getElem?_set_ne (fun e => hj (by simp [e]))⟩
theorem Only.refl {S : List Nat} {σ : L2.St} : Only S σ σ := ⟨rfl, fun _ _ => rfl⟩
theorem Only.trans {S T : List Nat} {a b c : L2.St} (x : Only S a b) (y : Only T b c) : Only (S ++ T) a c := ⟨y.1.trans x.1, fun i hi => (y.2 i fun z => hi (List.mem_append_right _ z)).trans (x.2 i fun z => hi (List.mem_append_left _ z))⟩
theorem pgm_name {i : Nat} {x : Str} (h : PG X (.Name x pos) (gName i)) : PGM X (.Name x pos) [i] (mgName i) :=
  PG.imp h fun v σ H Q ⟨L, h, δ, d, r, s, p, δ', e, q⟩ => by
    cases e
    exact q _ (s.set p) Only.set
def mgNil : MGs := fun ds δ => match ds with
  | [] => some δ
  | _ => none
def mgCons (g : MG) (gs : MGs) : MGs := fun ds δ => match ds with
  | [] => none
  | d :: ds => (g d δ).bind fun δ' => gs ds δ'
theorem pgsm_nil : PGsM X [] [] mgNil := PGs.imp pgs_nil fun v σ H Q ⟨L, h, δ, ds, r, s, p, δ', e, q⟩ => by
  cases ds with
  | nil => cases e; exact ⟨p.nil_inv, q σ s Only.refl⟩
  | cons _ _ => cases e
theorem pgsm_cons {S T : List Nat} {es : List Expr} {g : MG} {gs : MGs} (h1 : PGM X e S g) (h2 : PGsM X es T gs)
    (hs : (assignEach (e :: es) X.env).map (·.2) = assign e X.env :: (assignEach es X.env).map (·.2) := by rfl) : PGsM X (e :: es) (S ++ T) (mgCons g gs) :=
  PGs.imp (pgs_cons h1 h2 hs) fun v σ H Q ⟨L, h, δ, ds, r, s, p, δ', e, q⟩ => by
    cases ds with
    | nil => cases e
    | cons d ds =>
      obtain ⟨v, ws, rfl, p1, p2⟩ := p.cons_inv
      unfold mgCons at e
      obtain ⟨δ1, e1, e2⟩ := Option.bind_eq_some_iff.mp e
      exact ⟨v, ws, rfl, L, h, δ, d, r, s, p1, δ1, e1, fun σ1 s1 o1 => ⟨L, h, δ1, ds, r, s1, p2, δ', e2, fun σ2 s2 o2 => q σ2 s2 (o1.trans o2)⟩⟩
def mgTup (n : Nat) (gs : MGs) : MG := fun d δ => match d with
  | .tup ds => if ds.length = n then gs ds δ else none
  | _ => none
def mAsg (m : ME) (g : MG) : MSt := fun δ h => (m δ h).st δ fun d h1 => match g d δ with
  | some δ' => .ok (.next δ') h1
  | none => .stuck
abbrev mSet (i : Nat) (m : ME) : MSt := fun δ h => (m δ h).st δ fun d h1 => .ok (.next (δ.set i (some d))) h1
theorem psm_asg {S : List Nat} {tg : Expr} {g : MG} (he : PEM X W e me) (hg : PGM X tg S g) (hs : swapsWithSole [tg] e pos.line X.env = pure false := by rfl) (hw : swappedStores [tg] e X.env = pure none := by rfl) (h1 : (assignEach [tg] X.env).map (·.2) = [assign tg X.env] := by rfl) : PSM X W (.Assign [tg] e pos) (mAsg me g) :=
  PS.imp (ps_asg he hg hs hw h1) fun D σ H ⟨L, h, δ, r, s, a⟩ => ⟨L, h, δ, r, s, Ans.imp (AnsS.bind (rp := Rep X.K) s a) fun v H1 ⟨L1, h1, d, x1, r1, p1, s1, a1⟩ => by
    cases e : g d δ with
    | none => rw [e] at a1; exact a1.elim
    | some δ' =>
      rw [e] at a1
      exact ⟨L1, h1, δ, d, r1, s1, p1, δ', e, fun σ' s' _ => a1.nx r1 s'⟩⟩
theorem psm_set {i : Nat} {x : Str} {pos' : Pos} (h : PS X (.Assign [.Name x pos'] e pos) (tAsg (tE X.K W me) (gName i))) : PSM X W (.Assign [.Name x pos'] e pos) (mSet i me) :=
  PS.imp h fun D σ H ⟨L, h, δ, r, s, a⟩ => ⟨L, h, δ, r, s, Ans.imp (AnsS.bind (rp := Rep X.K) s a) fun v H1 ⟨L1, h1, d, x1, r1, p1, s1, a1⟩ => a1.nx r1 (s1.set p1)⟩
end
end MM
namespace MM
open PySem PySem.Spec PyProof.Rows L2
open Classical in
noncomputable def leave (h : MH) (d : D) (h' : MH) : R D := if LeftOf h h' ∧ d.lows h.length = true then .ok d (h'.take h.length) else .stuck
theorem ans_leave {K L H L' H'} {h h' : MH} {d : D} {v : V} {Q : VK} {E : XK} (r : Rel K L H h) (x : Ext L H L' H') (r' : Rel K L' H' h') (q : Rep K L' H' d v) (a : Ans K (Rep K) L H (leave h d h') Q E) : Q v H' := by
  unfold leave at a
  split at a
  · rename_i z
    obtain ⟨x1, r1⟩ := r.leave r' x z.1
    exact a _ H' v x1 r1 (q.take z.2)
  · exact a.elim

structure Trod (K : PySem.W.Frag) (L : TL) (H : Hp) (J : It) (ds : List D) (g : MH → Prop) : Prop where
  go : ∀ L' H' h' (i : Nat), Ext L H L' H' → Rel K L' H' h' → g h' → i < ds.length → J.go i H'
  stop : ∀ L' H' h', Ext L H L' H' → Rel K L' H' h' → g h' → J.stop ds.length H'
  yld : ∀ L' H' h' (i : Nat) x H'', Ext L H L' H' → Rel K L' H' h' → g h' → i < ds.length → J.yld i H' x H'' → Ext L' H' L' H'' ∧ Rel K L' H'' h' ∧ ∃ d, ds[i]? = some d ∧ Rep K L' H'' d x
structure Src where
  ds : List D
  g : MH → Prop
abbrev MI := MS → MH → R Src
def AnsI (K : PySem.W.Frag) (W : WX) (σ : L2.St) (L : TL) (H : Hp) (r : R Src) (Q : It → Hp → Prop) : Prop := match r with
  | .ok S h1 => ∀ L1 H1 J, Ext L H L1 H1 → Rel K L1 H1 h1 → Trod K L1 H1 J S.ds S.g → Q J H1
  | .exc c fs h1 => ∀ L' H' dx xs, Ext L H L' H' → Rel K L' H' h1 → H' dx = some (.xd xs) → RepF K L' H' fs xs → ∀ ev, EV K c ev → W ev (some dx) σ H'
  | .stuck => False
def tI (K : PySem.W.Frag) (W : WX) (m : MI) : TI := fun σ H Q => ∃ L h δ, Rel K L H h ∧ RepS K L H δ σ ∧ AnsI K W σ L H (m δ h) Q
def PIM (X : Cx) (W : WX) (tg iter : Expr) (m : MI) : Prop := PI X tg iter (tI X.K W m)
theorem _root_.L2.PI.imp {X : Cx} {tg e : Expr} {t t' : TI} (p : PI X tg e t) (h : ∀ σ H Q, t' σ H Q → t σ H Q) : PI X tg e t' := ⟨fun pins s σ H R I q => p.run pins s σ H R I (h σ H R q)⟩
theorem _root_.L2.PI.or {X : Cx} {tg e : Expr} {t t' : TI} (p : PI X tg e t) (p' : PI X tg e t') : PI X tg e (fun σ H Q => t σ H Q ∨ t' σ H Q) := ⟨fun pins s σ H R I q => q.elim (p.run pins s σ H R I) (p'.run pins s σ H R I)⟩

open Classical in
noncomputable def forM (g : MH → Prop) (tgt : MG) (body : MSt) : List D → MS → MH → SR
  | [], δ, h => if g h then .ok (.next δ) h else .stuck
  | x :: r, δ, h => if g h then (match tgt x δ with
      | some δ1 => (match body δ1 h with
        | .ok (.next δ2) h2 => forM g tgt body r δ2 h2
        | .ok (.cont δ2) h2 => forM g tgt body r δ2 h2
        | .ok (.brk δ2) h2 => .ok (.next δ2) h2
        | .ok (.ret d) h2 => .ok (.ret d) h2
        | .exc c fs δ2 h2 => .exc c fs δ2 h2
        | .stuck => .stuck)
      | none => .stuck) else .stuck
noncomputable def mFor (src : MI) (tgt : MG) (body : MSt) : MSt := fun δ h => (src δ h).st δ fun S h1 => forM S.g tgt body S.ds δ h1
section
variable {X : Cx} {W : WX} {pos : Pos} {tg iter : Expr} {body : List Stmt} {mi : MI} {S : List Nat} {g : MG} {mb : MSt}
theorem psm_for (hp : PassesOwn (model X.prog X.w) X.A X.env X.xe) (hc : X.calm = true) (hi : PIM X W tg iter mi) (hg : PGM X tg S g) (hb : PSsM X W body mb) (hs : ∀ x, foldedSetIterable iter X.env x = pure x := by intro _; rfl) :
    PSM X W (.For tg iter body [] pos) (mFor mi g mb) := by
  refine PS.imp (ps_for hp hc hi hg hb hs) fun D σ H ⟨L, h, δ, r, s, a⟩ => ?_
  refine ⟨L, h, δ, r, s, ?_⟩
  unfold mFor at a
  generalize mi δ h = m at a
  cases m with
  | stuck => exact a
  | exc c fs h1 => exact fun L' H' dx xs x r q1 q2 => a L' H' σ dx xs x r (s.mono x) q1 q2
  | ok Sr h1 =>
    intro L1 H1 J x1 r1 tr
    replace a : AnsS X.K D W L H (forM Sr.g g mb Sr.ds δ h1) := a
    refine ⟨fun i m σ' H' => ∃ L' h' δ', Ext L1 H1 L' H' ∧ Rel X.K L' H' h' ∧ RepS X.K L' H' δ' σ' ∧ m = Sr.ds.length - i ∧ i ≤ Sr.ds.length ∧ AnsS X.K D W L' H' (forM Sr.g g mb (Sr.ds.drop i) δ' h'),
      ⟨Sr.ds.length, L1, h1, δ, Ext.refl _ _, r1, s.mono x1, by simp, Nat.zero_le _, by rw [List.drop_zero]; exact a.mono x1⟩, ?_⟩
    rintro i m σ' H' ⟨L', h', δ', x', r', s', rfl, hi, a'⟩
    by_cases hlt : i < Sr.ds.length
    · rw [List.drop_eq_getElem_cons hlt] at a'
      unfold forM at a'
      split at a'
      case isFalse => exact a'.elim
      rename_i hg'
      refine .inr ⟨tr.go L' H' h' i x' r' hg' hlt, fun σ2 H2 => ∃ L2 h2 δ2, Ext L1 H1 L2 H2 ∧ Rel X.K L2 H2 h2 ∧ RepS X.K L2 H2 δ2 σ2 ∧ AnsS X.K D W L2 H2 (forM Sr.g g mb (Sr.ds.drop (i + 1)) δ2 h2), fun σ2 H2 ⟨L2, h2, δ2, e1, e2, e3, e4⟩ => ⟨Sr.ds.length - (i + 1), by omega, L2, h2, δ2, e1, e2, e3, rfl, hlt, e4⟩, fun x H'' hy => ?_⟩
      obtain ⟨x2, r2, d, hd, pd⟩ := tr.yld L' H' h' i x H'' x' r' hg' hlt hy
      have hd' : Sr.ds[i] = d := by
        rw [List.getElem?_eq_getElem hlt] at hd
        exact Option.some.inj hd
      rw [hd'] at a'
      cases et : g d δ' with
      | none => rw [et] at a'; exact a'.elim
      | some δ1 =>
        simp only [et] at a'
        refine ⟨L', h', δ', d, r2, s'.mono x2, pd, δ1, et, fun σ2 s2 _ => ?_⟩
        refine ⟨L', h', δ1, r2, s2, ?_⟩
        replace a' := a'.mono x2
        have x3 := x'.trans x2
        generalize mb δ1 h' = res at a' ⊢
        cases res with
        | stuck => exact a'.elim
        | exc c fs δ2 h2 => exact a'
        | ok f h2 =>
          cases f with
          | next δ2 => exact fun L3 H3 σ3 y r3 s3 => ⟨L3, h2, δ2, x3.trans y, r3, s3, a'.mono y⟩
          | cont δ2 => exact fun L3 H3 σ3 y r3 s3 => ⟨L3, h2, δ2, x3.trans y, r3, s3, a'.mono y⟩
          | brk δ2 => exact a'
          | ret v => exact a'
    · have e : i = Sr.ds.length := by omega
      subst e
      rw [List.drop_length] at a'
      unfold forM at a'
      split at a'
      case isFalse => exact a'.elim
      rename_i hg'
      exact .inl ⟨tr.stop L' H' h' x' r' hg', a'.nx r' s'⟩
end
open Classical in
section
variable {X : Cx} {W : WX} {pos : Pos} {c : Expr} {body : List Stmt} {mt : MT} {mb : MSt}
end
def R.nx {α : Type} (r : R α) : R α := match r with
  | .exc _ _ _ => .stuck
  | r => r
@[simp] theorem R.nx_ok {α : Type} (a : α) (h) : (R.ok a h).nx = .ok a h := rfl
@[simp] theorem R.nx_exc {α : Type} (c fs h) : (R.exc c fs h : R α).nx = .stuck := rfl
@[simp] theorem R.nx_stuck {α : Type} : (R.stuck : R α).nx = .stuck := rfl
def W0 : WX := fun _ _ _ _ => False
theorem Ans.nx {α β : Type} {K : PySem.W.Frag} {rp : RP α β} {L H} {r : R α} {Q : β → Hp → Prop} {E E' : XK} (a : Ans K rp L H r.nx Q E) : Ans K rp L H r Q E' := by
  cases r with
  | ok d h => exact a
  | exc c fs h => exact a.elim
  | stuck => exact a
def wipeM (δ : MS) : List Nat → MS
  | [] => δ
  | v :: vs => (wipeM δ vs).set v none
theorem RepS.wipe {K L H} {δ : MS} {σ : L2.St} (s : RepS K L H δ σ) : ∀ vs, RepS K L H (wipeM δ vs) (wipe σ vs)
  | [] => s
  | v :: vs => (RepS.wipe s vs).setNone
theorem wipe_at (σ : L2.St) : ∀ (vs : List Nat) (i : Nat), (wipe σ vs)[i]? = if i ∈ vs then (if i < σ.length then some none else none) else σ[i]?
  | [], i => by simp [wipe]
  | v :: vs, i => by
    unfold L2.wipe
    by_cases hv : v = i
    · subst hv
      rw [if_pos (List.mem_cons_self ..)]
      by_cases hl : v < σ.length
      · rw [if_pos hl, List.getElem?_set_self (by rw [wipe_length]; exact hl)]
      · rw [if_neg hl, List.getElem?_eq_none (by rw [List.length_set, wipe_length]; omega)]
    · rw [List.getElem?_set_ne hv, wipe_at σ vs i]
      have : (i ∈ v :: vs) ↔ i ∈ vs := by simp [show ¬ i = v from fun z => hv z.symm]
      simp only [this]
theorem wipe_eq {σ σ' : L2.St} {S vs : List Nat} (o : Only S σ σ') (hs : ∀ i ∈ S, i ∈ vs) : wipe σ' vs = wipe σ vs := by
  apply List.ext_getElem?
  intro i
  rw [wipe_at, wipe_at, o.1]
  split
  · rfl
  · rename_i hi; exact o.2 i fun z => hi (hs i z)
theorem wipe_wipe (σ : L2.St) (vs : List Nat) : wipe (wipe σ vs) vs = wipe σ vs := by
  apply List.ext_getElem?
  intro i
  rw [wipe_at, wipe_at, wipe_length]
  split <;> rfl
open Classical in
noncomputable def compM (g : MH → Prop) (tgt : MG) (cond : MT) (elt : ME) (n : Nat) (δ0 : MS) : List D → MH → R Unit
  | [], h => if g h then .ok () h else .stuck
  | x :: r, h => if g h then (match tgt x δ0 with
      | some δ1 => (cond δ1 h).nx.bnd fun b h1 => if b then (elt δ1 h1).nx.bnd fun y h2 => (match lst? h2 n with
          | some acc => if acc.length < 16777216 then compM g tgt cond elt n δ0 r (h2.set n (.lst (acc ++ [y]))) else .stuck
          | none => .stuck) else compM g tgt cond elt n δ0 r h1
      | none => .stuck) else .stuck
noncomputable def mLc (src : MI) (tgt : MG) (cond : MT) (elt : ME) (vs : List Nat) : ME := fun δ h => (src δ h).bnd fun S h1 => (compM S.g tgt cond elt h1.length (wipeM δ vs) S.ds (h1 ++ [.lst []])).bnd fun _ h2 => match lst? h2 h1.length with
  | some acc => leave h1 (.rol acc) (h2.set h1.length .dead)
  | none => .stuck
def mYes : MT := fun _ h => .ok true h
def PTsM (X : Cx) (W : WX) (ifs : List Expr) (m : MT) : Prop := PTs X ifs (tT X.K W m)
theorem ptsm_nil {X : Cx} {W : WX} : PTsM X W [] mYes := ⟨fun pins s σ H Q I ⟨L, h, δ, r, s', a⟩ => pts_nil.run pins s σ H Q I (ans_okB r a)⟩
theorem oat_nil {K L H a} : OAt K L (upd H a (.lst [])) (some (some a)) (.lst []) := ⟨a, [], rfl, upd_same, .nil⟩
theorem Ans.bind0 {α β γ δ' : Type} {K : PySem.W.Frag} {rp : RP α β} {rp2 : RP γ δ'} {L0 L : TL} {H0 H : Hp} {E : XK} {r : R α} {k : α → MH → R γ} {Q : δ' → Hp → Prop} (x0 : Ext L0 H0 L H) (a : Ans K rp2 L0 H0 (r.bnd k) Q E) :
    Ans K rp L H r (fun v H1 => ∃ L1 h1 d, Ext L H L1 H1 ∧ Rel K L1 H1 h1 ∧ rp L1 H1 d v ∧ Ans K rp2 L0 H0 (k d h1) Q E) E := by
  cases r with
  | ok d h => exact fun L2 H2 v e r q => ⟨L2, h, d, e, r, q, a⟩
  | exc c fs h => exact fun L2 H2 dx xs e => a L2 H2 dx xs (x0.trans e)
  | stuck => exact a
theorem lc_turns {K : PySem.W.Frag} {J : It} {S : List Nat} {g : MG} {cond : MT} {elt : ME} {vs : List Nat} (hs : ∀ i ∈ S, i ∈ vs) {L1 : TL} {H1 : Hp} {h1 : MH} {Sr : Src} {δ : MS} {σ : L2.St} {Dl : Addr} {k : Unit → MH → R D} {Q : VK} {E : XK}
    (r1 : Rel K L1 H1 h1) (s1 : RepS K L1 H1 δ σ) (tr : Trod K L1 H1 J Sr.ds Sr.g) (hD : H1 Dl = none)
    (a : Ans K (Rep K) L1 H1 ((compM Sr.g g cond elt h1.length (wipeM δ vs) Sr.ds (h1 ++ [.lst []])).bnd k) Q E)
    (hd : ∀ L' H' h', Ext L1 H1 L' H' → Rel K L' H' h' → (∃ o, L'[h1.length]? = some o ∧ ∀ b, o = some b → b = Dl) → Ans K (Rep K) L1 H1 (k () h') Q E → Q (.ref Dl) H') :
    ∃ W : Nat → Nat → Hp → Prop, (∃ m, W 0 m (upd H1 Dl (.lst []))) ∧ ∀ i m H, W i m H →
      (J.stop i H ∧ Q (.ref Dl) H) ∨ (J.go i H ∧ ∃ Nx : Hp → Prop, (∀ H', Nx H' → ∃ m', m' < m ∧ W (i + 1) m' H') ∧ ∀ x H', J.yld i H x H' → tG K S g x (wipe σ vs) H' fun σ2 H2 => wipe σ2 vs = wipe σ vs ∧ tT K W0 cond σ2 H2 fun b H3 =>
        if b = true then tE K W0 elt σ2 H3 fun y H4 => ∃ acc, H4 Dl = some (.lst acc) ∧ acc.length < sizeLine ∧ Nx (upd H4 Dl (.lst (acc ++ [y]))) else Nx H3) := by
  obtain ⟨xa, ra⟩ := r1.alloc (m := .lst []) hD oat_nil
  have at0 : (L1 ++ [some Dl])[h1.length]? = some (some Dl) := by rw [getElem?_snoc, if_pos r1.len.symm]
  have own : ∀ {L' : TL} {H' : Hp}, Ext (L1 ++ [some Dl]) (upd H1 Dl (.lst [])) L' H' → ∃ o, L'[h1.length]? = some o ∧ ∀ b, o = some b → b = Dl := fun x => by
    rcases x.live _ _ at0 with z | z
    · exact ⟨_, z, fun b e => (Option.some.inj e).symm⟩
    · exact ⟨_, z, fun b e => by cases e⟩
  refine ⟨fun i m H' => ∃ L' h', Ext (L1 ++ [some Dl]) (upd H1 Dl (.lst [])) L' H' ∧ Rel K L' H' h' ∧ m = Sr.ds.length - i ∧ i ≤ Sr.ds.length ∧ Ans K (Rep K) L1 H1 ((compM Sr.g g cond elt h1.length (wipeM δ vs) (Sr.ds.drop i) h').bnd k) Q E,
    ⟨Sr.ds.length, _, _, Ext.refl _ _, ra, by simp, Nat.zero_le _, by rw [List.drop_zero]; exact a⟩, ?_⟩
  rintro i m H' ⟨L', h', x', r', rfl, hi, a'⟩
  have x1' := xa.trans x'
  by_cases hlt : i < Sr.ds.length
  · rw [List.drop_eq_getElem_cons hlt] at a'
    unfold compM at a'
    split at a'
    case isFalse => exact a'.elim
    rename_i hg'
    refine .inr ⟨tr.go L' H' h' i x1' r' hg' hlt, fun H2 => ∃ L2 h2, Ext (L1 ++ [some Dl]) (upd H1 Dl (.lst [])) L2 H2 ∧ Rel K L2 H2 h2 ∧ Ans K (Rep K) L1 H1 ((compM Sr.g g cond elt h1.length (wipeM δ vs) (Sr.ds.drop (i + 1)) h2).bnd k) Q E,
      fun H2 ⟨L2, h2, e1, e2, e3⟩ => ⟨Sr.ds.length - (i + 1), by omega, L2, h2, e1, e2, rfl, hlt, e3⟩, fun x H'' hy => ?_⟩
    obtain ⟨x2, r2, d, hd', pd⟩ := tr.yld L' H' h' i x H'' x1' r' hg' hlt hy
    have hdd : Sr.ds[i] = d := by
      rw [List.getElem?_eq_getElem hlt] at hd'
      exact Option.some.inj hd'
    rw [hdd] at a'
    cases et : g d (wipeM δ vs) with
    | none => rw [et] at a'; exact a'.elim
    | some δ1 =>
      simp only [et] at a'
      refine ⟨L', h', wipeM δ vs, d, r2, (s1.wipe vs).mono (x1'.trans x2), pd, δ1, et, fun σ2 s2 o2 => ⟨?_, ?_⟩⟩
      · rw [wipe_eq o2 hs, wipe_wipe]
      · rw [R.bnd_assoc] at a'
        refine ⟨L', h', δ1, r2, s2, Ans.imp (Ans.nx (Ans.bind0 (rp := rpB) (x1'.trans x2) a')) fun b H3 ⟨L3, h3, b', x3, r3, p3, a3⟩ => ?_⟩
        cases p3
        cases b with
        | false => exact iteF ⟨L3, h3, (x'.trans x2).trans x3, r3, a3⟩
        | true =>
          refine iteT ?_
          simp only [if_true] at a3
          rw [R.bnd_assoc] at a3
          refine ⟨L3, h3, δ1, r3, s2.mono x3, Ans.imp (Ans.nx (Ans.bind0 (rp := Rep K) ((x1'.trans x2).trans x3) a3)) fun y H4 ⟨L4, h4, dy, x4, r4, p4, a4⟩ => ?_⟩
          have x5 := (x'.trans x2).trans (x3.trans x4)
          cases el : lst? h4 h1.length with
          | none => rw [el] at a4; exact a4.elim
          | some acc =>
            simp only [el] at a4
            obtain ⟨ad, xs, e1, e2, w⟩ := r4.lst (lst?_at el)
            obtain ⟨o, eo, ho⟩ := own x5
            rw [e1] at eo; cases eo
            have : ad = Dl := ho ad rfl
            subst this
            by_cases hz : acc.length < 16777216
            · rw [if_pos hz] at a4
              refine ⟨xs, e2, by rw [sizeLine_eq, ← w.length]; exact hz, ?_⟩
              have nf : ∀ o u, H4 ad ≠ some (.frz o u) := fun o u z => by rw [e2] at z; cases z
              obtain ⟨x6, r6⟩ := r4.write (m := .lst (acc ++ [dy])) e1 nf (o := .lst (xs ++ [y])) ⟨ad, xs ++ [y], rfl, upd_same, (w.mono (ext_write e1 nf)).append (.cons (p4.mono (ext_write e1 nf)) .nil)⟩
              exact ⟨L4, _, x5.trans x6, r6, a4⟩
            · rw [if_neg hz] at a4; exact a4.elim
  · have e : i = Sr.ds.length := by omega
    subst e
    rw [List.drop_length] at a'
    unfold compM at a'
    split at a'
    case isFalse => exact a'.elim
    rename_i hg'
    exact .inl ⟨tr.stop L' H' h' x1' r' hg', hd L' H' h' x1' r' (own x') a'⟩
theorem lc_end {K : PySem.W.Frag} {L1 L' : TL} {H1 H' : Hp} {h1 h' : MH} {acc : List D} {Dl : Addr} {Q : VK} {E : XK} (r1 : Rel K L1 H1 h1) (x : Ext L1 H1 L' H') (r' : Rel K L' H' h') (o : ∃ o, L'[h1.length]? = some o ∧ ∀ b, o = some b → b = Dl) (e : lst? h' h1.length = some acc)
    (a : Ans K (Rep K) L1 H1 (leave h1 (.rol acc) (h'.set h1.length .dead)) Q E) : Q (.ref Dl) H' := by
  obtain ⟨ad, xs, e1, e2, w⟩ := r'.lst (lst?_at e)
  obtain ⟨o, eo, ho⟩ := o
  rw [e1] at eo; cases eo
  have : ad = Dl := ho ad rfl
  subst this
  obtain ⟨xk, rk⟩ := r'.kill (n := h1.length) (List.getElem?_eq_some_iff.mp (lst?_at e)).1
  refine ans_leave r1 (x.trans xk) rk ?_ a
  unfold Rep
  exact ⟨ad, xs, rfl, .inl ⟨.inl e2, NL.kill r' e1⟩, w.mono xk⟩
theorem tLc_of {K : PySem.W.Frag} {W : WX} {S : List Nat} {mi : MI} {g : MG} {cond : MT} {elt : ME} {vs : List Nat} (hs : ∀ i ∈ S, i ∈ vs) {σ : L2.St} {H : Hp} {Q : VK} (t : tE K W (mLc mi g cond elt vs) σ H Q) : tLc (tI K W mi) (tG K S g) (tT K W0 cond) (tE K W0 elt) vs σ H Q := by
  obtain ⟨L, h, δ, r, s, a⟩ := t
  refine ⟨L, h, δ, r, s, ?_⟩
  unfold mLc at a
  generalize mi δ h = m at a
  cases m with
  | stuck => exact a.elim
  | exc c fs h1 => exact a
  | ok Sr h1 =>
    intro L1 H1 J x1 r1 tr Dl hD
    refine lc_turns hs r1 (s.mono x1) tr hD (Ans.mono x1 a) fun L' H' h' x' r' o a' => ?_
    cases el : lst? h' h1.length with
    | none => rw [el] at a'; exact a'.elim
    | some acc => simp only [el] at a'; exact lc_end r1 x' r' o el a'
section
variable {X : Cx} {W : WX} {elt tg iter : Expr} {ifs : List Expr} {scope : Scope} {own : List (Str × Nat)} {pos : Pos} {mi : MI} {S : List Nat} {g : MG} {cond : MT} {me : ME}
theorem pem_lc (hc : X.calm = true) (hN : X.N.Nodup) (hi : PIM X W tg iter mi) (ok : BlkOk X.N X.env.scope scope own) (hS : ∀ i ∈ S, i ∈ own.map (·.2))
    (hg : ∀ (s : Shared) (H : Hp) (C : Addr) (cl : List (Str × Addr)) (fp : List Addr), PGM (X.blk s H scope (compEnvC scope cl C X.env) fp) tg S g)
    (ht : ∀ (s : Shared) (H : Hp) (C : Addr) (cl : List (Str × Addr)) (fp : List Addr), PTsM (X.blk s H scope (compEnvC scope cl C X.env) fp) W0 ifs cond)
    (he : ∀ (s : Shared) (H : Hp) (C : Addr) (cl : List (Str × Addr)) (fp : List Addr), PEM (X.blk s H scope (compEnvC scope cl C X.env) fp) W0 elt me) (hs : ∀ x, foldedSetIterable iter X.env x = pure x := by intro _; rfl) :
    PEM X W (.ListComp elt [⟨tg, iter, ifs, 0⟩] scope pos) (mLc mi g cond me (own.map (·.2))) :=
  PE.imp (pe_lc (wi := tI X.K W mi) (g := tG X.K S g) (tt := tT X.K W0 cond) (te := tE X.K W0 me) hc hN hi ok hg ht he hs) fun _ _ _ t => tLc_of hS t
end
end MM
namespace MM
open PySem PySem.Spec PyProof.Rows L2
section
variable {X : Cx} {W : WX} {pos : Pos} {a b c e : Expr} {ma mb mc me : ME} {es : List Expr} {mas : MA}
def mNil : MA := fun _ h => .ok [] h
def mCons (m : ME) (ms : MA) : MA := fun δ h => (m δ h).bnd fun d h1 => (ms δ h1).bnd fun ds h2 => .ok (d :: ds) h2
theorem pam_nil : PAM X W [] mNil := PA.imp pa_nil fun σ H Q ⟨L, h, δ, r, s, a⟩ => a L H [] (Ext.refl _ _) r .nil
theorem pam_cons (ha : PEM X W e me) (hr : PAM X W es mas) (hs : starEach (e :: es) X.env = (false, eval e X.env) :: starEach es X.env := by rfl) : PAM X W (e :: es) (mCons me mas) :=
  PA.imp (pa_cons ha hr hs) fun σ H Q ⟨L, h, δ, r, s, a⟩ => ⟨L, h, δ, r, s, Ans.imp (Ans.bind (rp := Rep X.K) a) fun v H1 ⟨L1, h1, d, x1, r1, p1, a1⟩ =>
    ⟨L1, h1, δ, r1, s.mono x1, Ans.imp (Ans.bind (rp := RepL X.K) a1) fun vs H2 ⟨L2, h2, ds, x2, r2, p2, a2⟩ => a2 L2 H2 (v :: vs) (Ext.refl _ _) r2 (.cons (p1.mono x2) p2)⟩⟩
def mTup (ms : MA) : ME := fun δ h => (ms δ h).bnd fun ds h1 => if ds.length ≤ 16777216 then .ok (.tup ds) h1 else .stuck
theorem rep_tup {K L H} {h : MH} {ds vs p} (r : Rel K L H h) (hp : H p = none) (w : RepL K L H ds vs) : Ext L H L (upd H p (.tup vs)) ∧ Rel K L (upd H p (.tup vs)) h ∧ Rep K L (upd H p (.tup vs)) (.tup ds) (.ref p) := by
  obtain ⟨x, r'⟩ := r.fresh (o := .tup vs) hp
  refine ⟨x, r', ?_⟩
  unfold Rep
  exact ⟨p, vs, rfl, .inl ⟨.inl upd_same, r.nl_new hp⟩, w.mono x⟩
theorem rep_rol {K L H} {h : MH} {ds vs p} (r : Rel K L H h) (hp : H p = none) (w : RepL K L H ds vs) : Ext L H L (upd H p (.lst vs)) ∧ Rel K L (upd H p (.lst vs)) h ∧ Rep K L (upd H p (.lst vs)) (.rol ds) (.ref p) := by
  obtain ⟨x, r'⟩ := r.fresh (o := .lst vs) hp
  refine ⟨x, r', ?_⟩
  unfold Rep
  exact ⟨p, vs, rfl, .inl ⟨.inl upd_same, r.nl_new hp⟩, w.mono x⟩
theorem rep_new {K L H} {h : MH} {ds vs p} (r : Rel K L H h) (hp : H p = none) (w : RepL K L H ds vs) : Ext L H (L ++ [some p]) (upd H p (.lst vs)) ∧ Rel K (L ++ [some p]) (upd H p (.lst vs)) (h ++ [.lst ds]) ∧ Rep K (L ++ [some p]) (upd H p (.lst vs)) (.ref h.length) (.ref p) := by
  obtain ⟨x, r'⟩ := r.alloc (m := .lst ds) (o := .lst vs) hp ⟨p, vs, rfl, upd_same, w.mono (ext_alloc hp)⟩
  refine ⟨x, r', ?_⟩
  unfold Rep
  exact ⟨p, rfl, .inl (by rw [getElem?_snoc, if_pos r.len.symm])⟩
theorem ans_of {K L H L1 H1} {h1 : MH} {d v} {Q : VK} {E : XK} (x : Ext L H L1 H1 ∧ Rel K L1 H1 h1 ∧ Rep K L1 H1 d v) (a : Ans K (Rep K) L H (.ok d h1) Q E) : Q v H1 := a L1 H1 v x.1 x.2.1 x.2.2
theorem szl {n : Nat} (h : n ≤ 16777216) : n ≤ sizeLine := by rw [sizeLine_eq]; exact h
theorem pem_tup {x1} (hs : PAM X W es mas) : PEM X W (.Tuple es x1 pos) (mTup mas) :=
  PE.imp (pe_tup hs) fun σ H Q ⟨L, h, δ, r, s, a⟩ => ⟨L, h, δ, r, s, Ans.imp (Ans.bind (rp := RepL X.K) a) fun vs H1 ⟨L1, h1, ds, x1, r1, p1, a1⟩ => by
    by_cases z : ds.length ≤ 16777216
    · rw [if_pos z] at a1
      exact ⟨by rw [← p1.length]; exact szl z, fun p hp => ans_of (rep_tup r1 hp p1) a1⟩
    · rw [if_neg z] at a1; exact a1.elim⟩
def mLst (ms : MA) : ME := fun δ h => (ms δ h).bnd fun ds h1 => if ds.length ≤ 16777216 then .ok (.rol ds) h1 else .stuck
def mLstN (ms : MA) : ME := fun δ h => (ms δ h).bnd fun ds h1 => if ds.length ≤ 16777216 then .ok (.ref h1.length) (h1 ++ [.lst ds]) else .stuck
theorem pem_lstN (hs : PAM X W es mas) : PEM X W (.List es pos) (mLstN mas) :=
  PE.imp (pe_lst hs) fun σ H Q ⟨L, h, δ, r, s, a⟩ => ⟨L, h, δ, r, s, Ans.imp (Ans.bind (rp := RepL X.K) a) fun vs H1 ⟨L1, h1, ds, x1, r1, p1, a1⟩ => by
    by_cases z : ds.length ≤ 16777216
    · rw [if_pos z] at a1
      exact ⟨by rw [← p1.length]; exact szl z, fun p hp => ans_of (rep_new r1 hp p1) a1⟩
    · rw [if_neg z] at a1; exact a1.elim⟩
theorem pem_ix {r : R2} {f : D → D → MH → R D} (hr : IxR X r) (hm : OpM X.K r f) (ha : PEM X W a ma) (hb : PEM X W b mb) (hs : PlainIx b) : PEM X W (.Subscript a b pos) (mOp f ma mb) :=
  PE.imp (pe_ix hr ha hb hs) fun _ _ _ t => tOp_of hm t
def rpO : RP (Option Int) (Option Int) := fun _ _ a b => a = b
abbrev MOp := MS → MH → R (Option Int)
def tOm (K : PySem.W.Frag) (W : WX) (m : MOp) : TO := fun σ H Q => ∃ L h δ, Rel K L H h ∧ RepS K L H δ σ ∧ Ans K rpO L H (m δ h) Q (WE W σ)
def POM (X : Cx) (W : WX) (e : Option Expr) (m : MOp) : Prop := PO X e (tOm X.K W m)
theorem _root_.L2.PO.imp {X : Cx} {e : Option Expr} {t t' : TO} (p : PO X e t) (h : ∀ σ H Q, t' σ H Q → t σ H Q) : PO X e t' := ⟨fun pins s σ H Q I q => p.run pins s σ H Q I (h σ H Q q)⟩
def mNoP : MOp := fun _ h => .ok none h
def mPart (m : ME) : MOp := fun δ h => (m δ h).bnd fun d h1 => match d with
  | .int i => .ok (some i) h1
  | _ => .stuck
theorem pom_some (ha : PEM X W a ma) : POM X W (some a) (mPart ma) :=
  PO.imp (po_some ha) fun σ H Q ⟨L, h, δ, r, s, a⟩ => ⟨L, h, δ, r, s, Ans.imp (Ans.bind (rp := Rep X.K) a) fun v H1 ⟨L1, h1, d, x1, r1, p1, a1⟩ => by
    cases d with
    | int i =>
      unfold Rep at p1
      exact ⟨i, p1, a1 L1 H1 (some i) (Ext.refl _ _) r1 rfl⟩
    | _ => exact a1.elim⟩
def mSl (f : D → Option Int → Option Int → MH → R D) (m : ME) (lo hi : MOp) : ME := fun δ h => (m δ h).bnd fun d h1 => (lo δ h1).bnd fun l h2 => (hi δ h2).bnd fun u h3 => f d l u h3
def SlM (K : PySem.W.Frag) (r : V → Option Int → Option Int → Hp → VK → Prop) (f : D → Option Int → Option Int → MH → R D) : Prop := ∀ (L : TL) (H : Hp) (h : MH) (d : D) (x : V) (lo hi : Option Int) (Q : VK) (E : XK), Rel K L H h → Rep K L H d x → Ans K (Rep K) L H (f d lo hi h) Q E → r x lo hi H Q
theorem pem_slice {r : V → Option Int → Option Int → Hp → VK → Prop} {f : D → Option Int → Option Int → MH → R D} {lo hi : Option Expr} {ml mh : MOp} {p2 : Pos} (hr : SlR X r) (hm : SlM X.K r f) (ha : PEM X W a ma) (hl : POM X W lo ml) (hu : POM X W hi mh) :
    PEM X W (.Subscript a (.Slice lo hi none p2) pos) (mSl f ma ml mh) :=
  PE.imp (pe_slice hr ha hl hu) fun σ H Q ⟨L, h, δ, r0, s, a⟩ => ⟨L, h, δ, r0, s, Ans.imp (Ans.bind (rp := Rep X.K) a) fun v H1 ⟨L1, h1, d, x1, r1, p1, a1⟩ => ⟨L1, h1, δ, r1, s.mono x1,
    Ans.imp (Ans.bind (rp := rpO) a1) fun l H2 ⟨L2, h2, l', x2, r2, p2, a2⟩ => ⟨L2, h2, δ, r2, s.mono (x1.trans x2), Ans.imp (Ans.bind (rp := rpO) a2) fun u H3 ⟨L3, h3, u', x3, r3, p3, a3⟩ => by
      cases p2; cases p3
      exact hm L3 H3 h3 d v l u Q _ r3 (p1.mono (x2.trans x3)) a3⟩⟩⟩
def CallM (K : PySem.W.Frag) (r : List V → Hp → VK → Prop) (f : List D → MH → R D) : Prop := ∀ (L : TL) (H : Hp) (h : MH) (ds : List D) (vs : List V) (Q : VK) (E : XK), Rel K L H h → RepL K L H ds vs → Ans K (Rep K) L H (f ds h) Q E → r vs H Q
def mCall (f : List D → MH → R D) (ms : MA) : ME := fun δ h => (ms δ h).bnd f
theorem pem_callB {x : Str} {id : String} {r : List V → Hp → VK → Prop} {f : List D → MH → R D} {p : Pos} (hc : CallR X (.builtin id) r) (hm : CallM X.K r f) (hg : Gl X x) (hmg : X.mg x = none) (hv : bootBuiltins x = some (.builtin id)) (ha : PAM X W (e :: es) mas)
    (hn : x ≠ "__name__" := by decide) (hdb : (x == ("__debug__" : Str)) = false := by decide) (he : starEach (e :: es) X.env = (false, eval e X.env) :: starEach es X.env := by rfl) (hpl : (backTo pos (starEach es X.env)).any (·.1) = false := by rfl) :
    PEM X W (.Call (.Name x p) (e :: es) [] pos) (mCall f mas) :=
  PE.imp (pe_callB hc hg hmg hv ha hn hdb he hpl) fun σ H Q ⟨L, h, δ, r0, s, a⟩ => ⟨L, h, δ, r0, s, Ans.imp (Ans.bind (rp := RepL X.K) a) fun vs H1 ⟨L1, h1, ds, x1, r1, p1, a1⟩ => hm L1 H1 h1 ds vs Q _ r1 p1 a1⟩
theorem pem_callTy {x : Str} {id : String} {r : List V → Hp → VK → Prop} {f : List D → MH → R D} {p : Pos} (hc : CallR X (.type id) r) (hm : CallM X.K r f) (hg : Gl X x) (hmg : X.mg x = none) (hv : bootBuiltins x = some (.type id)) (ha : PAM X W (e :: es) mas)
    (hn : x ≠ "__name__" := by decide) (hdb : (x == ("__debug__" : Str)) = false := by decide) (he : starEach (e :: es) X.env = (false, eval e X.env) :: starEach es X.env := by rfl) (hpl : (backTo pos (starEach es X.env)).any (·.1) = false := by rfl) :
    PEM X W (.Call (.Name x p) (e :: es) [] pos) (mCall f mas) :=
  PE.imp (pe_callTy hc hg hmg hv ha hn hdb he hpl) fun σ H Q ⟨L, h, δ, r0, s, a⟩ => ⟨L, h, δ, r0, s, Ans.imp (Ans.bind (rp := RepL X.K) a) fun vs H1 ⟨L1, h1, ds, x1, r1, p1, a1⟩ => hm L1 H1 h1 ds vs Q _ r1 p1 a1⟩
def isTy (T : String) (d : D) (h : MH) : Bool := match d with
  | .str _ => T == "str"
  | .int _ => T == "int"
  | .rol _ => T == "list"
  | .ref n => match h[n]? with
    | some (.lst _) => T == "list"
    | some (.dic _) => T == "dict"
    | _ => false
  | _ => false
theorem tyV_of {K L H} {h : MH} {T : String} {d v} (r : Rel K L H h) (q : Rep K L H d v) (e : isTy T d h = true) : tyV K T v H := by
  cases d with
  | str s => unfold Rep at q; subst q; exact beq_iff_eq.mp e
  | int s => unfold Rep at q; subst q; exact beq_iff_eq.mp e
  | rol ds =>
    unfold Rep at q
    obtain ⟨p, xs, rfl, s, w⟩ := q
    exact .inl ⟨beq_iff_eq.mp e, xs, s.sq⟩
  | ref n =>
    unfold isTy at e
    simp only at e
    split at e
    · rename_i ds z
      obtain ⟨p, xs, e1, e2, w⟩ := r.lst z
      rw [q.ref e1]
      exact .inl ⟨beq_iff_eq.mp e, xs, SqL.of e2⟩
    · rename_i ds z
      obtain ⟨p, xs, e1, e2, w⟩ := r.dic z
      rw [q.ref e1]
      exact .inr (.inr (.inl ⟨beq_iff_eq.mp e, .inl ⟨xs, e2⟩⟩))
    · cases e
  | _ => cases e
def MtdM (K : PySem.W.Frag) (r : V → List V → Hp → VK → Prop) (f : D → List D → MH → R D) : Prop := ∀ (L : TL) (H : Hp) (h : MH) (d : D) (x : V) (ds : List D) (vs : List V) (Q : VK) (E : XK), Rel K L H h → Rep K L H d x → RepL K L H ds vs → Ans K (Rep K) L H (f d ds h) Q E → r x vs H Q
def mMtd (T : String) (f : D → List D → MH → R D) (m : ME) (ms : MA) : ME := fun δ h => (m δ h).bnd fun d h1 => if isTy T d h1 = true then (ms δ h1).bnd fun ds h2 => f d ds h2 else .stuck
theorem pem_bm {o : Expr} {mo : ME} {name : Str} {apos cpos : Pos} {T id : String} {r : V → List V → Hp → VK → Prop} {f : D → List D → MH → R D} (pa : PlainAttrs T) (slot : Slot T name id) (hty : typeOf (.builtin id) = pure (.type "method_descriptor")) (hmt : MtR X id r) (hm : MtdM X.K r f) (ho : PEM X W o mo) (ha : PAM X W (e :: es) mas)
    (hbase : attributeBase o name X.env (eval o X.env) = eval o X.env := by rfl)
    (hfew : ((backTo cpos (starEach (e :: es) X.env)).all (fun x => !x.1) && (backToKw cpos (keywordEach [] X.env)).all (fun x => x.1.isSome)
      && decide ((e :: es).length + ([] : List Keyword).length + (if ([] : List Keyword).isEmpty then 0 else 1) < 30)) = true := by rfl)
    (hline : (apos.endLine == cpos.line) = true := by rfl) (hs : starEach (e :: es) X.env = (false, eval e X.env) :: starEach es X.env := by rfl) (hplain : (backTo cpos (starEach es X.env)).any (·.1) = false := by rfl) :
    PEM X W (.Call (.Attribute o name apos) (e :: es) [] cpos) (mMtd T f mo mas) :=
  PE.imp (pe_bm pa slot hty hmt ho ha hbase hfew hline hs hplain) fun σ H Q ⟨L, h, δ, r0, s, a⟩ => ⟨L, h, δ, r0, s, Ans.imp (Ans.bind (rp := Rep X.K) a) fun v H1 ⟨L1, h1, d, x1, r1, p1, a1⟩ => by
    by_cases z : isTy T d h1 = true
    · rw [if_pos z] at a1
      exact ⟨tyV_of r1 p1 z, L1, h1, δ, r1, s.mono x1, Ans.imp (Ans.bind (rp := RepL X.K) a1) fun vs H2 ⟨L2, h2, ds, x2, r2, p2, a2⟩ => hm L2 H2 h2 d v ds vs Q _ r2 (p1.mono x2) p2 a2⟩
    · rw [if_neg z] at a1; exact a1.elim⟩
end
def spOf (K : PySem.W.Frag) (m : List D → MH → R D) : Sp := fun vs H Q E => ∃ L h ds, Rel K L H h ∧ RepL K L H ds vs ∧ Ans K (Rep K) L H (m ds h) Q E
def FnM (P : Program) (w : World) (K : PySem.W.Frag) (mg : Str → Option Value) (base : Heap) (k : Nat) (f : Addr) (fd : FuncData) (ps : List Str) (m : List D → MH → R D) : Prop := FnOk P w K mg base (L2N.CX P w) k f fd ps (spOf K m)
structure DefAt (K : PySem.W.Frag) (mg : Str → Option Value) (x : Str) (st : Stmt) (f : Addr) (fd : FuncData) (ps : List Str) : Prop where
  fn : Fun K x x st f fd
  mg' : mg x = some (.ref f)
  bi : Binds K fd ps []
def mStart (N : Nat) (ds : List D) : MS := ds.map some ++ List.replicate (N - ds.length) none
open Classical in
noncomputable def leaveX (h : MH) (c : Str) (fs : List (Str × D)) (h' : MH) : R D := if LeftOf h h' ∧ (fs.all fun p => p.2.lows h.length) = true then .exc c fs (h'.take h.length) else .stuck
noncomputable def mEnd (h : MH) : SR → R D
  | .ok (.ret d) h' => leave h d h'
  | .ok (.next _) h' => leave h .non h'
  | .ok _ _ => .stuck
  | .exc c fs _ h' => leaveX h c fs h'
  | .stuck => .stuck
def mEndN : SR → R D
  | .ok (.ret d) h' => .ok d h'
  | .ok (.next _) h' => .ok .non h'
  | .ok _ _ => .stuck
  | .exc c fs _ h' => .exc c fs h'
  | .stuck => .stuck
noncomputable def mFn (n N : Nat) (ms : MSt) : List D → MH → R D := fun ds h => if ds.length = n then mEnd h (ms (mStart N ds) h) else .stuck
def mFnN (n N : Nat) (ms : MSt) : List D → MH → R D := fun ds h => if ds.length = n then mEndN (ms (mStart N ds) h) else .stuck
theorem repS_start {K L H} {N : List Str} {ds : List D} {vs : List V} (w : RepL K L H ds vs) : RepS K L H (mStart N.length ds) (L2.start N vs) := by
  have hl := w.length
  refine ⟨by unfold mStart L2.start; simp [hl], fun i d e => ?_⟩
  unfold mStart at e
  by_cases hi : i < ds.length
  · rw [List.getElem?_append_left (by simpa using hi), List.getElem?_map] at e
    rw [List.getElem?_eq_getElem hi] at e
    simp only [Option.map_some, Option.some.injEq] at e
    obtain ⟨v, e1, q⟩ := w.get (List.getElem?_eq_getElem hi)
    refine ⟨v, ?_, by rw [← e]; exact q⟩
    unfold L2.start
    rw [List.getElem?_append_left (by simpa [← hl] using hi), List.getElem?_map, e1]; rfl
  · rw [List.getElem?_append_right (by simpa using hi)] at e
    have := List.getElem?_eq_some_iff.mp e
    obtain ⟨h1, h2⟩ := this
    rw [List.getElem_replicate] at h2
    cases h2
section
variable {P : Program} {w : World} {K : PySem.W.Frag} {mg : Str → Option Value} {base : Heap}
theorem FnM.mono {j k : Nat} {f fd ps m} (F : FnM P w K mg base j f fd ps m) (h : j ≤ k) : FnM P w K mg base k f fd ps m := FnOk.mono F h
theorem okN {x qual : Str} {st : Stmt} {f : Addr} {fd : FuncData} {N ps : List Str} {k : Nat} {sp : Sp} (F : Fun K x qual st f fd) (S : FnScope N ps (defScope st)) (len : ∀ vs H Q E, sp vs H Q E → vs.length = ps.length)
    (hbody : ∀ (cdv : Value) (A : Around) (outer : List Env) (s : Shared) (H : Hp) (vs : List V) (Q : VK) (E : XK), Room k (A.deeper (envOfC qual (defScope st) s.heap.objs.size f cdv)) → sp vs H Q E →
      ∃ t, PSs (cxOf (L2N.CX P w) P w K mg base N qual (defScope st) f cdv A outer s H E) (defBody st) t ∧ t { nx := fun _ H' => Q .non H', rt := Q } (start N vs) H) : FnOk P w K mg base (L2N.CX P w) (k + 1) f fd ps sp := by
  obtain ⟨oc, od, kV, doc, pm, an, cdv, ct, osl, rfl, lk, hcd⟩ := F.ex
  exact fn_of lk hcd S len fun A outer s H vs Q E hr hsp => hbody cdv A outer s H vs Q E hr hsp
theorem fnM_body {x qn : Str} {st : Stmt} {f : Addr} {fd : FuncData} {N ps : List Str} {k : Nat} {m : MSt} {g : List D → MH → R D} (F : Fun K x qn st f fd) (S : FnScope N ps (defScope st))
    (hg : ∀ ds h, g ds h = .stuck ∨ (ds.length = ps.length ∧ (g ds h = mEnd h (m (mStart N.length ds) h) ∨ g ds h = mEndN (m (mStart N.length ds) h))))
    (body : ∀ (cdv : Value) (A : Around) (outer : List Env) (s : Shared) (H : Hp) (E : XK), Room k (A.deeper (envOfC qn (defScope st) s.heap.objs.size f cdv)) →
      L2N.Takes (cxOf (L2N.CX P w) P w K mg base N qn (defScope st) f cdv A outer s H E) (fun c d _ H => E c d H) →
      PassesOwn (model P w) (A.deeper (envOfC qn (defScope st) s.heap.objs.size f cdv)) (envOfC qn (defScope st) s.heap.objs.size f cdv) (cxOf (L2N.CX P w) P w K mg base N qn (defScope st) f cdv A outer s H E).xe →
      PSsM (cxOf (L2N.CX P w) P w K mg base N qn (defScope st) f cdv A outer s H E) (fun c d _ H => E c d H) (defBody st) m) :
    FnM P w K mg base (k + 1) f fd ps g := by
  refine okN F S (fun vs H Q E ⟨L, h, ds, r, q, a⟩ => ?_) (fun cdv A outer s H vs Q E hr ⟨L, h, ds, r, q, a⟩ => ?_)
  · rcases hg ds h with z | ⟨z, _⟩
    · rw [z] at a; exact a.elim
    · rw [← q.length]; exact z
  · refine ⟨_, body cdv A outer s H E hr (L2N.takes_of rfl rfl rfl rfl) (passes_of rfl), ?_⟩
    refine ⟨L, h, mStart N.length ds, r, repS_start q, ?_⟩
    have hx : ∀ (c : Str) (fs : List (Str × D)) (h' : MH) (δ : MS), Ans K (Rep K) L H (.exc c fs h') Q E → AnsS K { nx := fun _ H' => Q .non H', rt := Q } (fun c d _ H => E c d H) L H (.exc c fs δ h') := fun c fs h' δ a L' H' σ' dx xs e r _ q1 q2 => a L' H' dx xs e r q1 q2
    rcases hg ds h with z | ⟨_, z | z⟩
    · rw [z] at a; exact a.elim
    · rw [z] at a
      generalize m (mStart N.length ds) h = res at a ⊢
      cases res with
      | stuck => exact a.elim
      | exc c fs δ h' =>
        unfold mEnd leaveX at a
        simp only at a
        split at a
        case isFalse => exact a.elim
        rename_i zz
        intro L' H' σ' dx xs e r' _ q1 q2
        obtain ⟨x1, r1⟩ := r.leave r' e zz.1
        exact a _ H' dx xs x1 r1 q1 (q2.take zz.2)
      | ok fl h' =>
        cases fl with
        | next δ => exact fun L' H' σ' e r' s' => ans_leave r e r' rep_none a
        | ret d => exact fun L' H' v e r' s' => ans_leave r e r' s' a
        | brk _ => exact a.elim
        | cont _ => exact a.elim
    · rw [z] at a
      generalize m (mStart N.length ds) h = res at a ⊢
      cases res with
      | stuck => exact a.elim
      | exc c fs δ h' => exact hx c fs h' δ a
      | ok fl h' =>
        cases fl with
        | next δ => exact fun L' H' σ' e r' s' => a L' H' .non e r' rep_none
        | ret d => exact fun L' H' v e r' s' => a L' H' v e r' s'
        | brk _ => exact a.elim
        | cont _ => exact a.elim
theorem hg_fn {n N : Nat} {m : MSt} : ∀ ds h, mFn n N m ds h = .stuck ∨ (ds.length = n ∧ (mFn n N m ds h = mEnd h (m (mStart N ds) h) ∨ mFn n N m ds h = mEndN (m (mStart N ds) h))) := fun ds h => by
  by_cases z : ds.length = n
  · exact .inr ⟨z, .inl (if_pos z)⟩
  · exact .inl (if_neg z)
theorem hg_fnN {n N : Nat} {m : MSt} : ∀ ds h, mFnN n N m ds h = .stuck ∨ (ds.length = n ∧ (mFnN n N m ds h = mEnd h (m (mStart N ds) h) ∨ mFnN n N m ds h = mEndN (m (mStart N ds) h))) := fun ds h => by
  by_cases z : ds.length = n
  · exact .inr ⟨z, .inr (if_pos z)⟩
  · exact .inl (if_neg z)
end
section
variable {X : Cx} {W : WX} {pos : Pos} {e : Expr} {es : List Expr} {mas : MA}
theorem pem_call {x : Str} {st : Stmt} {f : Addr} {fd : FuncData} {ps : List Str} {k : Nat} {m : List D → MH → R D} {p : Pos} (F : FnM X.prog X.w X.K X.mg X.base k f fd ps m) (DA : DefAt X.K X.mg x st f fd ps) (hr : Room k X.A) (tk : L2N.Takes X W) (hg : Gl X x) (ha : PAM X W (e :: es) mas)
    (hdb : (x == ("__debug__" : Str)) = false := by decide) (he : starEach (e :: es) X.env = (false, eval e X.env) :: starEach es X.env := by rfl) (hpl : (backTo pos (starEach es X.env)).any (·.1) = false := by rfl) :
    PEM X W (.Call (.Name x p) (e :: es) [] pos) (mCall m mas) :=
  PE.imp (pe_callS (E := WE W) F hr hg DA.mg' DA.fn.kp DA.bi (fun σ => L2N.passAt tk σ) ha hdb he hpl) fun σ H Q ⟨L, h, δ, r0, s, a⟩ => ⟨L, h, δ, r0, s, Ans.imp (Ans.bind (rp := RepL X.K) a) fun vs H1 ⟨L1, h1, ds, x1, r1, p1, a1⟩ => ⟨L1, h1, ds, r1, p1, a1⟩⟩
end
section
variable {X : Cx} {W : WX} {pos : Pos} {e : Expr} {me : ME}
theorem mv (i : Nat) {x : Str} (hN : X.N[i]? = some x := by rfl) (hv : Vis X.env.scope x := by first | exact Or.inl rfl | exact Or.inr (Or.inl rfl) | exact Or.inr (Or.inr rfl)) (hd : (x == ("__debug__" : Str)) = false := by decide)
    (hcd : (x == ("__classdict__" : Str)) = false := by decide) : PEM X W (.Name x pos) (mVar i) := pem_var (pe_var hN hv hd hcd)
theorem gn (i : Nat) {x : Str} (hN : X.N.Nodup) (hi : X.N[i]? = some x := by rfl) (hx : Loc X.env.scope x := by first | exact Or.inl rfl | exact Or.inr rfl) (hf : X.fn x = true ∨ X.env.scope.names.lookup x = some .local := by first | exact .inl rfl | exact .inr rfl) : PGM X (.Name x pos) [i] (mgName i) := pgm_name (pg_name hN hi hx hf)
theorem ss (i : Nat) {x : Str} {pos' : Pos} (hN : X.N.Nodup) (he : PEM X W e me) (hi : X.N[i]? = some x := by rfl) (hx : Loc X.env.scope x := by first | exact Or.inl rfl | exact Or.inr rfl) (hs : swapsWith e (some (.Name x pos')) pos.line X.env = pure false := by rfl)
    (hf : X.fn x = true ∨ X.env.scope.names.lookup x = some .local := by first | exact .inl rfl | exact .inr rfl) : PSM X W (.Assign [.Name x pos'] e pos) (mSet i me) := psm_set (ps_set hN hi hx he hs hf)
def CAt (K : PySem.W.Frag) (mg : Str → Option Value) (x : Str) (d : D) : Prop := ∃ u v, mg x = some u ∧ RelV v u ∧ ∀ L H, Rep K L H d v
theorem mk {x : Str} {d : D} (c : CAt X.K X.mg x d) (hg : Gl X x := by rfl) (hd : (x == ("__debug__" : Str)) = false := by decide) : PEM X W (.Name x pos) (mC d) := by
  obtain ⟨u, v, h1, h2, h3⟩ := c
  exact pem_c (pe_glob hg h1 h2 hd) h3
theorem mty (n : String) {x : Str} (hm : X.mg x = none) (hv : bootBuiltins x = some (.type n)) (hg : Gl X x := by rfl) (hn : x ≠ "__name__" := by decide) (hd : (x == ("__debug__" : Str)) = false := by decide) : PEM X W (.Name x pos) (mC (.ty n)) :=
  pem_c (pe_bltn hg hm hv (v := .ty n) rfl hn hd) fun _ _ => rep_ty
theorem takes0N {X : Cx} : L2N.Takes X (fun _ _ _ _ => False) := fun _ _ x => by
  obtain ⟨_, _, _, _, _, _, _, _, _, _, _, _, _, _, _, _, z⟩ := x
  exact z.elim
end
section
theorem no_exc {P : Program} {w : World} {l : List Env} {H : Hp} {s s' : Shared} {e : Value} (q : L2N.CX P w l H s (fun _ _ _ => False) e s') : False := by
  obtain ⟨_, _, _, _, _, _, _, _, _, _, _, _, z⟩ := q
  exact z.elim
theorem repL_ints {K L H} : ∀ ns : List Int, RepL K L H (ns.map D.int) (ns.map V.int)
  | [] => .nil
  | n :: ns => .cons rep_int (repL_ints ns)
theorem rel_nil {K H} : Rel K [] H [] := ⟨rfl, fun n o e => by simp at e, fun n m a e => by simp at e⟩
theorem law_end {K : PySem.W.Frag} {m : List D → MH → R D} {H : Hp} {a : Addr} {ns : List Int} {E : XK} (hS : SqL K H a (ns.map V.int)) (h : ∃ h', m [.rol (ns.map D.int)] [] = .ok (.bl true) h') : spOf K m [.ref a] H (fun v _ => v = .bl true) E := by
  obtain ⟨h', e⟩ := h
  refine ⟨[], [], [.rol (ns.map D.int)], rel_nil, .cons ?_ .nil, ?_⟩
  · unfold Rep
    refine ⟨a, ns.map V.int, rfl, ?_, repL_ints ns⟩
    rcases hS with hS | hS
    · exact .inl ⟨hS, fun n z => by simp at z⟩
    · exact .inr hS
  · rw [e]
    intro L' H' v _ _ q
    unfold Rep at q
    exact q
end
end MM
namespace MM
open PySem PySem.Spec PyProof.Rows L2
section
variable {K : PySem.W.Frag}
theorem rep_int_inv {L H i v} (q : Rep K L H (.int i) v) : v = .int i := by unfold Rep at q; exact q
theorem rep_str_inv {L H i v} (q : Rep K L H (.str i) v) : v = .str i := by unfold Rep at q; exact q
theorem rep_non_inv {L H v} (q : Rep K L H .non v) : v = .non := by unfold Rep at q; exact q
theorem rep_ty_inv {L H i v} (q : Rep K L H (.ty i) v) : v = .ty i := by unfold Rep at q; exact q
def rAdd3 (K : PySem.W.Frag) : R2 := fun x y H Q => (rI0 (fun i j => .int (i + j)) x y H Q ∨ (∃ i j, x = .str i ∧ y = .str j ∧ i.length + j.length ≤ sizeLine ∧ Q (.str (i ++ j)) H)) ∨ rCatA K x y H Q
theorem op_add3 {X : Cx} : OpR X (binaryOp .Add) (rAdd3 X.K) := (op_add.or op_add_str).or op_catA
def opAdd (x y : D) (h : MH) : R D := match x, y with
  | .int a, .int b => .ok (.int (a + b)) h
  | .str a, .str b => if a.length + b.length ≤ 16777216 then .ok (.str (a ++ b)) h else .stuck
  | .tup a, .tup b => if a.length + b.length ≤ 16777216 then .ok (.tup (a ++ b)) h else .stuck
  | _, _ => .stuck
theorem RepL.nil_iff {L H ds vs} (w : RepL K L H ds vs) : vs = [] ↔ ds = [] := by
  have := w.length
  cases ds <;> cases vs <;> simp_all
theorem opAdd_ok : OpM K (rAdd3 K) opAdd := by
  intro L H h dx dy x y Q E r px py a
  unfold opAdd at a
  split at a
  · rename_i i j
    exact .inl (.inl ⟨i, j, rep_int_inv px, rep_int_inv py, ans_okE r rep_int a⟩)
  · rename_i i j
    split at a
    · rename_i z
      exact .inl (.inr ⟨i, j, rep_str_inv px, rep_str_inv py, szl z, ans_okE r rep_str a⟩)
    · exact a.elim
  · rename_i ds es
    split at a
    · rename_i z
      obtain ⟨p, xs, rfl, s, w⟩ := tup_of px
      obtain ⟨q, ys, rfl, s', w'⟩ := tup_of py
      refine .inr ⟨p, q, xs, ys, rfl, rfl, s, s', by rw [← w.length, ← w'.length]; exact szl z, fun e => ?_, fun e e' => ?_, fun e e' p hp => ?_⟩
      · have : ds = [] := w.nil_iff.mp e
        subst this
        exact ans_okE r py a
      · have : es = [] := w'.nil_iff.mp e'
        subst this
        rw [List.append_nil] at a
        exact ans_okE r px a
      · exact ans_of (rep_tup r hp (w.append w')) a
    · exact a.elim
  · exact a.elim
def opSub (x y : D) (h : MH) : R D := match x, y with
  | .int a, .int b => .ok (.int (a - b)) h
  | _, _ => .stuck
theorem opSub_ok : OpM K (rI0 fun i j => .int (i - j)) opSub := by
  intro L H h dx dy x y Q E r px py a
  unfold opSub at a
  split at a
  · rename_i i j
    exact ⟨i, j, rep_int_inv px, rep_int_inv py, ans_okE r rep_int a⟩
  · exact a.elim
def strRep (n : Int) (x : Str) : Str := if n < 1 then Str.empty else if (n == 1 || x.length == 0) = true then x else ⟨(List.replicate n.toNat x.cps).foldl (· ++ ·) #[]⟩
def rStrRep : R2 := fun x y H Q => ∃ z n, x = .str z ∧ y = .int n ∧ (-(2 ^ 63 : Int) ≤ n ∧ n < 2 ^ 63 ∧ (z.length : Int) * n ≤ 16777216) ∧ Q (.str (strRep n z)) H
theorem foldl_size (c : Array Nat) : ∀ (k : Nat) (acc : Array Nat), ((List.replicate k c).foldl (· ++ ·) acc).size = acc.size + k * c.size
  | 0, acc => by simp
  | k + 1, acc => by
    rw [List.replicate_succ, List.foldl_cons, foldl_size c k, Array.size_append, Nat.succ_mul]
    omega
theorem op_strRep {X : Cx} : OpR X (binaryOp .Mult) rStrRep := by
  intro pins s σ H x y v u Q I rx ry h
  obtain ⟨z, n, rfl, rfl, ⟨h0, h2, h1⟩, q⟩ := h
  obtain ⟨t, rfl⟩ := rx
  obtain ⟨t', rfl⟩ := ry
  refine PySem.P.mul_str (by rw [decide_eq_false (by omega), decide_eq_false (by omega)]; rfl) (fun a b => ?_) (fun a b => ?_) ?_
  · rw [Bool.or_eq_false_iff] at b
    have hn : 1 ≤ n := by omega
    have : (z.length : Int) ≤ (2 ^ 63 - 1) / n := by
      rw [Int.le_ediv_iff_mul_le (by omega)]
      omega
    omega
  · have hn : 1 ≤ n := by omega
    have : z.length * n.toNat ≤ 16777216 := by
      have h3 : (n.toNat : Int) = n := Int.toNat_of_nonneg (by omega)
      have : ((z.length * n.toNat : Nat) : Int) ≤ 16777216 := by rw [Int.natCast_mul, h3]; exact h1
      omega
    unfold Builtin.Str.tooLong
    rw [sizeLine_eq]
    exact decide_eq_false (by omega)
  · unfold strRep at q
    by_cases hn : n < 1
    · rw [if_pos hn] at q ⊢
      exact ⟨Nat.zero_le _, .str _, H, I.tok _, ⟨_, rfl⟩, q⟩
    · rw [if_neg hn] at q ⊢
      split at q
      · rename_i z1
        rw [if_pos z1]
        exact ⟨.str _, H, I, ⟨_, rfl⟩, q⟩
      · rename_i z1
        rw [if_neg z1]
        refine ⟨?_, .str _, H, I.tok _, ⟨_, rfl⟩, q⟩
        show ((List.replicate n.toNat z.cps).foldl (· ++ ·) #[]).size ≤ _
        rw [foldl_size, sizeLine_eq]
        have h3 : (n.toNat : Int) = n := Int.toNat_of_nonneg (by omega)
        have : ((z.length * n.toNat : Nat) : Int) ≤ 16777216 := by rw [Int.natCast_mul, h3]; exact h1
        show 0 + n.toNat * z.length ≤ _
        rw [Nat.mul_comm]
        omega
def rMul2 : R2 := fun x y H Q => rI CMulW (fun i j => .int (i * j)) x y H Q ∨ rStrRep x y H Q
theorem op_mul2 {X : Cx} : OpR X (binaryOp .Mult) rMul2 := op_mulW.or op_strRep
def opMul (x y : D) (h : MH) : R D := match x, y with
  | .int a, .int b => if a.natAbs.log2 + b.natAbs.log2 < 1000000 then .ok (.int (a * b)) h else .stuck
  | .str a, .int b => if -(2 ^ 63 : Int) ≤ b ∧ b < 2 ^ 63 ∧ (a.length : Int) * b ≤ 16777216 then .ok (.str (strRep b a)) h else .stuck
  | _, _ => .stuck
theorem opMul_ok : OpM K rMul2 opMul := by
  intro L H h dx dy x y Q E r px py a
  unfold opMul at a
  split at a
  · rename_i i j
    split at a
    · rename_i z
      exact .inl ⟨i, j, rep_int_inv px, rep_int_inv py, z, ans_okE r rep_int a⟩
    · exact a.elim
  · rename_i i j
    split at a
    · rename_i z
      exact .inr ⟨i, j, rep_str_inv px, rep_int_inv py, z, ans_okE r rep_str a⟩
    · exact a.elim
  · exact a.elim
def opDiv (x y : D) (h : MH) : R D := match x, y with
  | .int a, .int b => if 0 < b ∧ b < 2 ^ 2000 then .ok (.int (a / b)) h else .stuck
  | _, _ => .stuck
theorem opDiv_ok : OpM K (rI CDivW fun i j => .int (i / j)) opDiv := by
  intro L H h dx dy x y Q E r px py a
  unfold opDiv at a
  split at a
  · rename_i i j
    split at a
    · rename_i z
      exact ⟨i, j, rep_int_inv px, rep_int_inv py, wide_div (b := 2000) z.1 (by
        have := z.2
        have h2 : (j.natAbs : Int) < 2 ^ 2000 := by rw [Int.natAbs_of_nonneg (by omega)]; exact this
        exact_mod_cast h2) (by decide) (by decide), ans_okE r rep_int a⟩
    · exact a.elim
  · exact a.elim
def opMod (x y : D) (h : MH) : R D := match x, y with
  | .int a, .int b => if 0 < b then .ok (.int (a % b)) h else .stuck
  | _, _ => .stuck
theorem opMod_ok : OpM K (rI (fun _ j => 0 < j) fun i j => .int (i % j)) opMod := by
  intro L H h dx dy x y Q E r px py a
  unfold opMod at a
  split at a
  · rename_i i j
    split at a
    · rename_i z
      exact ⟨i, j, rep_int_inv px, rep_int_inv py, z, ans_okE r rep_int a⟩
    · exact a.elim
  · exact a.elim
def opNeg (x : D) (h : MH) : R D := match x with
  | .int a => .ok (.int (-a)) h
  | _ => .stuck
theorem opNeg_ok : UnM K (rU fun i => .int (-i)) opNeg := by
  intro L H h dx x Q E r px a
  unfold opNeg at a
  split at a
  · rename_i i
    exact ⟨i, rep_int_inv px, ans_okE r rep_int a⟩
  · exact a.elim

def opCmp (p : Int → Int → Bool) (q : Str → Str → Bool) (x y : D) (h : MH) : R D := match x, y with
  | .int a, .int b => .ok (.bl (p a b)) h
  | .str a, .str b => .ok (.bl (q a b)) h
  | _, _ => .stuck
def rCmp2 (p : Int → Int → Bool) (q : Str → Str → Bool) : R2 := fun x y H Q => rI0 (fun i j => .bl (p i j)) x y H Q ∨ ∃ i j, x = .str i ∧ y = .str j ∧ Q (.bl (q i j)) H
theorem opCmp_ok {p q} : OpM K (rCmp2 p q) (opCmp p q) := by
  intro L H h dx dy x y Q E r px py a
  unfold opCmp at a
  split at a
  · rename_i i j
    exact .inl ⟨i, j, rep_int_inv px, rep_int_inv py, ans_okE r rep_bl a⟩
  · rename_i i j
    exact .inr ⟨i, j, rep_str_inv px, rep_str_inv py, ans_okE r rep_bl a⟩
  · exact a.elim
abbrev opLt := opCmp (fun i j => decide (i < j)) (fun i j => decide (i.cps.toList < j.cps.toList))
theorem op_lt2 {X : Cx} : OpR X (compareOp .Lt) (rCmp2 (fun i j => decide (i < j)) (fun i j => decide (i.cps.toList < j.cps.toList))) := op_lt.or op_lt_str
abbrev opLe := opCmp (fun i j => decide (i ≤ j)) (fun i j => !decide (j.cps.toList < i.cps.toList))
theorem op_le2 {X : Cx} : OpR X (compareOp .LtE) (rCmp2 (fun i j => decide (i ≤ j)) (fun i j => !decide (j.cps.toList < i.cps.toList))) := op_le.or op_le_str
abbrev opGt := opCmp (fun i j => decide (j < i)) (fun i j => decide (j.cps.toList < i.cps.toList))
theorem op_gt2 {X : Cx} : OpR X (compareOp .Gt) (rCmp2 (fun i j => decide (j < i)) (fun i j => decide (j.cps.toList < i.cps.toList))) := op_gt.or op_gt_str
abbrev opGe := opCmp (fun i j => decide (j ≤ i)) (fun i j => !decide (i.cps.toList < j.cps.toList))
theorem op_ge2 {X : Cx} : OpR X (compareOp .GtE) (rCmp2 (fun i j => decide (j ≤ i)) (fun i j => !decide (i.cps.toList < j.cps.toList))) := op_ge.or op_ge_str
def opAddI (x y : D) (h : MH) : R D := match x, y with
  | .int a, .int b => .ok (.int (a + b)) h
  | .str a, .str b => if a.length + b.length ≤ 16777216 then .ok (.str (a ++ b)) h else .stuck
  | _, _ => .stuck
def rAddI : R2 := fun x y H Q => rI0 (fun i j => .int (i + j)) x y H Q ∨ (∃ i j, x = .str i ∧ y = .str j ∧ i.length + j.length ≤ sizeLine ∧ Q (.str (i ++ j)) H)
theorem iop_addI {X : Cx} : OpR X (inplaceOp .Add) rAddI := iop_add.or iop_add_str
theorem opAddI_ok : OpM K rAddI opAddI := by
  intro L H h dx dy x y Q E r px py a
  unfold opAddI at a
  split at a
  · rename_i i j
    exact .inl ⟨i, j, rep_int_inv px, rep_int_inv py, ans_okE r rep_int a⟩
  · rename_i i j
    split at a
    · rename_i z
      exact .inr ⟨i, j, rep_str_inv px, rep_str_inv py, szl z, ans_okE r rep_str a⟩
    · exact a.elim
  · exact a.elim
def eqS : D → D → Option Bool
  | .non, .non => some true
  | .int a, .int b => some (decide (a = b))
  | .bl a, .bl b => some (decide (a = b))
  | .str a, .str b => some (decide (a = b))
  | .non, .int _ => some false
  | .int _, .non => some false
  | .non, .bl _ => some false
  | .bl _, .non => some false
  | .non, .str _ => some false
  | .str _, .non => some false
  | .int _, .str _ => some false
  | .str _, .int _ => some false
  | .bl _, .str _ => some false
  | .str _, .bl _ => some false
  | _, _ => none
theorem eqS_ok {L H dx dy x y b} (px : Rep K L H dx x) (py : Rep K L H dy y) (e : eqS dx dy = some b) : scal x y = true ∧ decide (x = y) = b := by
  cases dx <;> cases dy <;> first
    | (cases e; done)
    | (unfold Rep at px py; subst px; subst py; cases e; refine ⟨rfl, ?_⟩; simp)
mutual
def toPy : D → Option PyData
  | .non => some .none
  | .bl b => some (.bool b)
  | .int i => some (.int i)
  | .str s => some (.str s)
  | .tup ds => (toPyL ds).map .tuple
  | .rol ds => (toPyL ds).map .list
  | _ => none
def toPyL : List D → Option (List PyData)
  | [] => some []
  | d :: ds => (toPy d).bind fun x => (toPyL ds).map fun xs => x :: xs
end
mutual
theorem toPy_dp {L H} : ∀ {d : D} {v : V} {p : PyData}, Rep K L H d v → toPy d = some p → Dp K H v p
  | .non, _, _, q, e => by rw [rep_non_inv q]; cases e; exact .non
  | .bl _, _, _, q, e => by rw [rep_bl_inv q]; cases e; exact .bl _
  | .int _, _, _, q, e => by rw [rep_int_inv q]; cases e; exact .int _
  | .str _, _, _, q, e => by rw [rep_str_inv q]; cases e; exact .str _
  | .tup ds, _, _, q, e => by
    obtain ⟨p, xs, rfl, s, w⟩ := tup_of q
    unfold toPy at e
    obtain ⟨ps, e1, rfl⟩ := Option.map_eq_some_iff.mp e
    exact .tup s (toPyL_dp w e1)
  | .rol ds, _, _, q, e => by
    unfold Rep at q
    obtain ⟨p, xs, rfl, s, w⟩ := q
    unfold toPy at e
    obtain ⟨ps, e1, rfl⟩ := Option.map_eq_some_iff.mp e
    exact .lst s.sq (toPyL_dp w e1)
  | .ref _, _, _, _, e => by unfold toPy at e; cases e
  | .obj _, _, _, _, e => by unfold toPy at e; cases e
  | .ty _, _, _, _, e => by unfold toPy at e; cases e
  | .kon _, _, _, _, e => by unfold toPy at e; cases e
  | .rdc _ _, _, _, _, e => by unfold toPy at e; cases e
  | .xo _ _ _ _, _, _, _, e => by unfold toPy at e; cases e
theorem toPyL_dp {L H} : ∀ {ds : List D} {vs : List V} {ps : List PyData}, RepL K L H ds vs → toPyL ds = some ps → DpAll K H vs ps
  | [], _, _, w, e => by rw [w.nil_inv]; unfold toPyL at e; cases e; exact .nil
  | d :: ds, _, _, w, e => by
    obtain ⟨v, vs, rfl, q, w⟩ := w.cons_inv
    unfold toPyL at e
    obtain ⟨x, e1, e2⟩ := Option.bind_eq_some_iff.mp e
    obtain ⟨xs, e3, rfl⟩ := Option.map_eq_some_iff.mp e2
    exact .cons (toPy_dp q e1) (toPyL_dp w e3)
end
def toPyH (d : D) (h : MH) : Option PyData := match d with
  | .ref n => (lst? h n).bind fun ds => (toPyL ds).map .list
  | d => toPy d
theorem toPyH_dp {L H} {h : MH} {d v p} (r : Rel K L H h) (q : Rep K L H d v) (e : toPyH d h = some p) : Dp K H v p := by
  cases d with
  | ref n =>
    obtain ⟨ds, e1, e2⟩ := Option.bind_eq_some_iff.mp e
    obtain ⟨ps, e3, rfl⟩ := Option.map_eq_some_iff.mp e2
    obtain ⟨a, xs, z1, z2, w⟩ := r.lst (lst?_at e1)
    rw [q.ref z1]
    exact .lst (SqL.of z2) (toPyL_dp w e3)
  | _ => exact toPy_dp q e
def eqG (x y : D) (h : MH) : Option Bool := match eqS x y with
  | some b => some b
  | none => (toPyH x h).bind fun p => (toPyH y h).bind fun q => if SeqAt.shaped p && SeqAt.shaped q then some (PyData.eqv p q) else none
def opEq (x y : D) (h : MH) : R D := match eqG x y h with
  | some b => .ok (.bl b) h
  | none => .stuck
def opNe (x y : D) (h : MH) : R D := match eqG x y h with
  | some b => .ok (.bl (!b)) h
  | none => .stuck
def rEq2 (K : PySem.W.Frag) : R2 := fun x y H Q => rEq x y H Q ∨ rEqD K x y H Q
def rNe2 (K : PySem.W.Frag) : R2 := fun x y H Q => rNe x y H Q ∨ rNeD K x y H Q
theorem op_eq2 {X : Cx} (hu : X.A.units + 64 < cLine) : OpR X (compareOp .Eq) (rEq2 X.K) := op_eq.or (op_eqD hu)
theorem op_ne2 {X : Cx} (hu : X.A.units + 64 < cLine) : OpR X (compareOp .NotEq) (rNe2 X.K) := op_ne.or (op_neD hu)
theorem eqG_ok {L H} {h : MH} {dx dy x y b} (r : Rel K L H h) (px : Rep K L H dx x) (py : Rep K L H dy y) (e : eqG dx dy h = some b) :
    (scal x y = true ∧ decide (x = y) = b) ∨ ∃ d e', Dp K H x d ∧ Dp K H y e' ∧ SeqAt.shaped d = true ∧ SeqAt.shaped e' = true ∧ PyData.eqv d e' = b := by
  unfold eqG at e
  split at e
  · rename_i c z
    cases e
    exact .inl (eqS_ok px py z)
  · obtain ⟨p, e1, e2⟩ := Option.bind_eq_some_iff.mp e
    obtain ⟨q, e3, e4⟩ := Option.bind_eq_some_iff.mp e2
    split at e4
    · rename_i z
      rw [Bool.and_eq_true] at z
      exact .inr ⟨p, q, toPyH_dp r px e1, toPyH_dp r py e3, z.1, z.2, Option.some.inj e4⟩
    · cases e4
theorem opEq_ok : OpM K (rEq2 K) opEq := by
  intro L H h dx dy x y Q E r px py a
  unfold opEq at a
  split at a
  · rename_i b z
    have q := ans_okE (K := K) (v := .bl b) r rep_bl a
    rcases eqG_ok r px py z with ⟨h1, h2⟩ | ⟨d, e, h1, h2, h3, h4, h5⟩
    · exact .inl ⟨h1, by rw [h2]; exact q⟩
    · exact .inr ⟨d, e, h1, h2, h3, h4, by rw [h5]; exact q⟩
  · exact a.elim
theorem opNe_ok : OpM K (rNe2 K) opNe := by
  intro L H h dx dy x y Q E r px py a
  unfold opNe at a
  split at a
  · rename_i b z
    have q := ans_okE (K := K) (v := .bl (!b)) r rep_bl a
    rcases eqG_ok r px py z with ⟨h1, h2⟩ | ⟨d, e, h1, h2, h3, h4, h5⟩
    · exact .inl ⟨h1, by rw [h2]; exact q⟩
    · exact .inr ⟨d, e, h1, h2, h3, h4, by rw [h5]; exact q⟩
  · exact a.elim
def isNon : D → Bool
  | .non => true
  | _ => false
def opIsN (x y : D) (h : MH) : R D := match y with
  | .non => .ok (.bl (isNon x)) h
  | _ => .stuck
def opNotN (x y : D) (h : MH) : R D := match y with
  | .non => .ok (.bl (!isNon x)) h
  | _ => .stuck
theorem isN_ok {L H d v} (q : Rep K L H d v) : decide (v = .non) = isNon d := by
  cases d <;> unfold Rep at q <;> first
    | (subst q; simp [isNon]; done)
    | (obtain ⟨a, xs, rfl, _⟩ := q; simp [isNon]; done)
    | (obtain ⟨a, rfl, _⟩ := q; simp [isNon]; done)
    | (rw [q.1]; simp [isNon]; done)
theorem opNotN_ok : OpM K (fun x y H Q => y = .non ∧ Q (.bl (!decide (x = .non))) H) opNotN := by
  intro L H h dx dy x y Q E r px py a
  unfold opNotN at a
  split at a
  · exact ⟨rep_non_inv py, by rw [isN_ok px]; exact ans_okE r rep_bl a⟩
  · exact a.elim
def flatD : D → Option V
  | .non => some .non
  | .bl b => some (.bl b)
  | .int i => some (.int i)
  | .str s => some (.str s)
  | _ => none
theorem flatD_ok {L H d v w} (q : Rep K L H d v) (e : flatD d = some w) : v = w ∧ flatV w = true := by
  cases d <;> first
    | (cases e; done)
    | (unfold Rep at q; cases e; exact ⟨q, rfl⟩)
def flatL : List D → Option (List V)
  | [] => some []
  | d :: ds => (flatD d).bind fun x => (flatL ds).map fun xs => x :: xs
theorem flatL_ok {L H} : ∀ {ds : List D} {vs ws}, RepL K L H ds vs → flatL ds = some ws → vs = ws ∧ ws.all flatV = true
  | [], _, _, w, e => by cases e; exact ⟨w.nil_inv, rfl⟩
  | d :: ds, _, _, w, e => by
    obtain ⟨v, vs, rfl, q, w⟩ := w.cons_inv
    unfold flatL at e
    obtain ⟨x, e1, e2⟩ := Option.bind_eq_some_iff.mp e
    obtain ⟨xs, e3, rfl⟩ := Option.map_eq_some_iff.mp e2
    obtain ⟨h1, h2⟩ := flatD_ok q e1
    obtain ⟨h3, h4⟩ := flatL_ok w e3
    refine ⟨by rw [h1, h3], ?_⟩
    rw [List.all_cons, h2, h4]; rfl
def subStr (a b : Str) : Bool := !(Builtin.Str.occurrences b a 0 b.length 1).isEmpty
def inG (x y : D) (h : MH) : Option Bool := match y with
  | .str b => (match x with | .str a => some (subStr a b) | _ => none)
  | .tup ds => (flatD x).bind fun v => (flatL ds).map fun vs => inV v vs
  | y => (lstD y h).bind fun ds => (flatD x).bind fun v => (flatL ds).map fun vs => inV v vs
def opIn (x y : D) (h : MH) : R D := match inG x y h with
  | some b => .ok (.bl b) h
  | none => .stuck
def opNin (x y : D) (h : MH) : R D := match inG x y h with
  | some b => .ok (.bl (!b)) h
  | none => .stuck
def rIn2 (K : PySem.W.Frag) : R2 := fun x y H Q => rIn K false x y H Q ∨ ∃ i j, x = .str i ∧ y = .str j ∧ Q (.bl (!(Builtin.Str.occurrences j i 0 j.length 1).isEmpty)) H
def rNin2 (K : PySem.W.Frag) : R2 := fun x y H Q => rIn K true x y H Q ∨ ∃ i j, x = .str i ∧ y = .str j ∧ Q (.bl (!(!(Builtin.Str.occurrences j i 0 j.length 1).isEmpty))) H
theorem op_in2 {X : Cx} : OpR X (compareOp .In) (rIn2 X.K) := op_in_seq.or op_in_str
theorem op_nin2 {X : Cx} : OpR X (compareOp .NotIn) (rNin2 X.K) := op_notIn_seq.or op_notin_str
theorem inG_ok {L H} {h : MH} {dx dy x y b} (r : Rel K L H h) (px : Rep K L H dx x) (py : Rep K L H dy y) (e : inG dx dy h = some b) :
    (∃ p xs, y = .ref p ∧ (SqL K H p xs ∨ SqT K H p xs) ∧ flatV x = true ∧ xs.all flatV = true ∧ inV x xs = b) ∨ ∃ i j, x = .str i ∧ y = .str j ∧ subStr i j = b := by
  have big : (lstD dy h).bind (fun ds => (flatD dx).bind fun v => (flatL ds).map fun vs => inV v vs) = some b → ∃ p xs, y = .ref p ∧ (SqL K H p xs ∨ SqT K H p xs) ∧ flatV x = true ∧ xs.all flatV = true ∧ inV x xs = b := fun e => by
    obtain ⟨ds, e1, e2⟩ := Option.bind_eq_some_iff.mp e
    obtain ⟨v, e3, e4⟩ := Option.bind_eq_some_iff.mp e2
    obtain ⟨vs, e5, rfl⟩ := Option.map_eq_some_iff.mp e4
    obtain ⟨p, xs, rfl, s, w⟩ := lstD_of r py e1
    obtain ⟨rfl, f1⟩ := flatD_ok px e3
    obtain ⟨rfl, f2⟩ := flatL_ok w e5
    exact ⟨p, xs, rfl, .inl s, f1, f2, rfl⟩
  cases dy with
  | str b =>
    unfold inG at e
    simp only at e
    split at e
    · rename_i a
      cases e
      exact .inr ⟨a, b, rep_str_inv px, rep_str_inv py, rfl⟩
    · cases e
  | tup ds =>
    obtain ⟨v, e3, e4⟩ := Option.bind_eq_some_iff.mp e
    obtain ⟨vs, e5, rfl⟩ := Option.map_eq_some_iff.mp e4
    obtain ⟨p, xs, rfl, s, w⟩ := tup_of py
    obtain ⟨rfl, f1⟩ := flatD_ok px e3
    obtain ⟨rfl, f2⟩ := flatL_ok w e5
    exact .inl ⟨p, xs, rfl, .inr s, f1, f2, rfl⟩
  | rol ds => exact .inl (big e)
  | ref n => exact .inl (big e)
  | non => exact .inl (big e)
  | bl _ => exact .inl (big e)
  | int _ => exact .inl (big e)
  | obj _ => exact .inl (big e)
  | ty _ => exact .inl (big e)
  | kon _ => exact .inl (big e)
  | rdc _ _ => exact .inl (big e)
  | xo _ _ _ _ => exact .inl (big e)
theorem opIn_ok : OpM K (rIn2 K) opIn := by
  intro L H h dx dy x y Q E r px py a
  unfold opIn at a
  split at a
  · rename_i b z
    have q := ans_okE (K := K) (v := .bl b) r rep_bl a
    rcases inG_ok r px py z with ⟨p, xs, h1, h2, h3, h4, h5⟩ | ⟨i, j, h1, h2, h3⟩
    · exact .inl ⟨p, xs, h1, h2, h3, h4, by rw [← h5] at q; exact q⟩
    · exact .inr ⟨i, j, h1, h2, by rw [← h3] at q; exact q⟩
  · exact a.elim
theorem opNin_ok : OpM K (rNin2 K) opNin := by
  intro L H h dx dy x y Q E r px py a
  unfold opNin at a
  split at a
  · rename_i b z
    have q := ans_okE (K := K) (v := .bl (!b)) r rep_bl a
    rcases inG_ok r px py z with ⟨p, xs, h1, h2, h3, h4, h5⟩ | ⟨i, j, h1, h2, h3⟩
    · exact .inl ⟨p, xs, h1, h2, h3, h4, by rw [← h5] at q; exact q⟩
    · exact .inr ⟨i, j, h1, h2, by rw [← h3] at q; exact q⟩
  · exact a.elim
end
end MM
namespace MM
open PySem PySem.Spec PyProof.Rows L2
section
variable {K : PySem.W.Frag}
theorem RepL.atI {L H ds vs} {i : Int} {d : D} (w : RepL K L H ds vs) (e : L2.atI ds i = some d) : ∃ v, L2.atI vs i = some v ∧ Rep K L H d v := by
  unfold L2.atI at e ⊢
  obtain ⟨j, e1, e2⟩ := Option.bind_eq_some_iff.mp e
  rw [← w.length, e1]
  exact w.get e2
def ixG (x y : D) (h : MH) : Option D := match y with
  | .int i => (match x with
    | .tup ds => L2.atI ds i
    | .str s => if s.length ≤ 16777216 then (L2.atI s.cps.toList i).map fun c => .str ⟨#[c]⟩ else none
    | x => (lstD x h).bind fun ds => L2.atI ds i)
  | _ => none
def opIx0 (x y : D) (h : MH) : R D := match ixG x y h with
  | some d => .ok d h
  | none => .stuck
def rIx3 (K : PySem.W.Frag) : R2 := fun x y H Q => rIxL K x y H Q ∨ (rIxT K x y H Q ∨ rIxS x y H Q)
theorem ix_all {X : Cx} : IxR X (rIx3 X.K) := ix_list.or (ix_tup.or ix_str)
theorem opIx0_ok : OpM K (rIx3 K) opIx0 := by
  intro L H h dx dy x y Q E r px py a
  unfold opIx0 at a
  cases e : ixG dx dy h with
  | none => rw [e] at a; exact a.elim
  | some d =>
    rw [e] at a
    cases dy with
    | int i =>
      have big : (lstD dx h).bind (fun ds => L2.atI ds i) = some d → rIxL K x y H Q := fun e => by
        obtain ⟨ds, e1, e2⟩ := Option.bind_eq_some_iff.mp e
        obtain ⟨p, xs, rfl, s, w⟩ := lstD_of r px e1
        obtain ⟨v, e3, q⟩ := w.atI e2
        exact ⟨p, xs, i, v, rfl, rep_int_inv py, s, e3, ans_okE r q a⟩
      cases dx with
      | tup ds =>
        obtain ⟨p, xs, rfl, s, w⟩ := tup_of px
        obtain ⟨v, e3, q⟩ := w.atI (show L2.atI ds i = some d from e)
        exact .inr (.inl ⟨p, xs, i, v, rfl, rep_int_inv py, s, e3, ans_okE r q a⟩)
      | str s =>
        replace e : (if s.length ≤ 16777216 then (L2.atI s.cps.toList i).map fun c => D.str ⟨#[c]⟩ else none) = some d := e
        split at e
        · rename_i z
          obtain ⟨c, e1, rfl⟩ := Option.map_eq_some_iff.mp e
          exact .inr (.inr ⟨s, i, c, rep_str_inv px, rep_int_inv py, szl z, e1, ans_okE r rep_str a⟩)
        · cases e
      | rol _ => exact .inl (big e)
      | ref _ => exact .inl (big e)
      | non => cases e
      | bl _ => cases e
      | int _ => cases e
      | obj _ => cases e
      | ty _ => cases e
      | kon _ => cases e
      | rdc _ _ => cases e
      | xo _ _ _ _ => cases e
    | _ => cases e
def keyD : D → Option Key
  | .int i => some (.inl i)
  | .str s => some (.inr s)
  | _ => none
theorem keyD_ok {L H} {d : D} {v : V} {k : Key} (q : Rep K L H d v) (e : keyD d = some k) : v = kV k := by
  unfold keyD at e
  split at e
  · cases e; rw [rep_int_inv q]; rfl
  · cases e; rw [rep_str_inv q]; rfl
  · cases e
def valD (kvs : List (Key × D)) (k : Key) : Option D := (kvs.find? fun p => decide (p.1 = k)).map (·.2)
def dG (x y : D) (h : MH) : Option (Option D) := match x with
  | .rdc ks ds => (keyD y).map fun k => valD (ks.zip ds) k
  | .ref n => (dic? h n).bind fun kvs => (keyD y).map fun k => valD kvs k
  | _ => none
def RepO (K : PySem.W.Frag) (L : TL) (H : Hp) (o : Option D) (w : Option V) : Prop := match o with
  | some d => ∃ v, w = some v ∧ Rep K L H d v
  | none => w = none
theorem repO_K {L H} {k : Key} : ∀ {kvs : List (Key × D)} {ws : List (Key × V)}, RepK K L H kvs ws → RepO K L H (valD kvs k) (valV ws k)
  | [], _, r => by cases r; rfl
  | p :: r, _, ⟨v, vs, e, q, w⟩ => by
    subst e
    unfold valD valV
    rw [List.find?_cons, List.find?_cons]
    by_cases hk : p.1 = k
    · rw [decide_eq_true hk]
      exact ⟨v, rfl, q⟩
    · rw [decide_eq_false hk]
      exact repO_K w
theorem repK_zip {L H} : ∀ {ks : List Key} {ds : List D} {xs : List V}, RepL K L H ds xs → RepK K L H (ks.zip ds) (ks.zip xs)
  | [], _, _, _ => by show RepK K L H [] _; exact rfl
  | _ :: _, [], _, w => by rw [w.nil_inv]; exact rfl
  | k :: ks, d :: ds, _, w => by
    obtain ⟨v, vs, rfl, q, w⟩ := w.cons_inv
    exact ⟨v, ks.zip vs, rfl, q, repK_zip w⟩
theorem dG_ok {L H} {h : MH} {dx dy : D} {x y : V} {o : Option D} (r : Rel K L H h) (px : Rep K L H dx x) (py : Rep K L H dy y) (e : dG dx dy h = some o) :
    ∃ a ov, x = .ref a ∧ IsD H a ∧ DGet H a y ov ∧ RepO K L H o ov := by
  unfold dG at e
  split at e
  · rename_i ks ds
    obtain ⟨k, e1, rfl⟩ := Option.map_eq_some_iff.mp e
    unfold Rep at px
    obtain ⟨a, xs, rfl, s, n, l, w⟩ := px
    exact ⟨a, _, rfl, .inl ⟨_, s⟩, .inl ⟨_, k, s, keyD_ok py e1, rfl⟩, repO_K (repK_zip w)⟩
  · rename_i n
    obtain ⟨kvs, e1, e2⟩ := Option.bind_eq_some_iff.mp e
    obtain ⟨k, e3, rfl⟩ := Option.map_eq_some_iff.mp e2
    obtain ⟨p, xs, z1, z2, w⟩ := r.dic (dic?_at e1)
    exact ⟨p, _, px.ref z1, .inl ⟨_, .inl z2⟩, .inl ⟨_, k, .inl z2, keyD_ok py e3, rfl⟩, repO_K w⟩
  · cases e
def rIxG : R2 := fun x y H Q => ∃ a v, x = .ref a ∧ DGet H a y (some v) ∧ Q v H
theorem ix_dict {X : Cx} (hu : X.A.units + 64 < cLine) : IxR X rIxG := by
  intro value slice pins s σ H x y v u Q I rx ry h hs
  obtain ⟨a, z, rfl, g, q⟩ := h
  obtain rfl : v = Value.ref a := rx
  exact tail_any (dict_typeIs I g) PySem.F.slot_dict_getitem.lookup (d_getItem (by omega) I g ry fun w' s' I' rw' => ⟨z, H, I', rw', q⟩) hs
def opIx (x y : D) (h : MH) : R D := match dG x y h with
  | some (some d) => .ok d h
  | _ => opIx0 x y h
def rIx4 (K : PySem.W.Frag) : R2 := fun x y H Q => rIxG x y H Q ∨ rIx3 K x y H Q
theorem ix_all2 {X : Cx} (hu : X.A.units + 64 < cLine) : IxR X (rIx4 X.K) := (ix_dict hu).or ix_all
theorem opIx_ok : OpM K (rIx4 K) opIx := by
  intro L H h dx dy x y Q E r px py a
  unfold opIx at a
  split at a
  · rename_i d e
    obtain ⟨p, ov, rfl, _, g, v, rfl, q⟩ := dG_ok r px py e
    exact .inl ⟨p, v, rfl, g, ans_okE r q a⟩
  · exact .inr (opIx0_ok L H h dx dy x y Q E r px py a)
def cutD (xs : List D) (lo hi : Option Int) : List D := (xs.drop (HT.sIx xs.length 0 lo)).take (HT.sIx xs.length xs.length hi - HT.sIx xs.length 0 lo)
theorem RepL.cut {L H ds vs} {lo hi : Option Int} (w : RepL K L H ds vs) : RepL K L H (cutD ds lo hi) (cutV vs lo hi) := by
  unfold cutD cutV
  rw [w.length]
  exact (w.drop _).take _
def slG (x : D) (lo hi : Option Int) (h : MH) : Option D := match x with
  | .str s => if s.length ≤ 16777216 then some (.str (cutS s lo hi)) else none
  | .tup ds => some (.tup (cutD ds lo hi))
  | x => (lstD x h).map fun ds => .rol (cutD ds lo hi)
def opSl (x : D) (lo hi : Option Int) (h : MH) : R D := match slG x lo hi h with
  | some d => .ok d h
  | none => .stuck
def rSl3 (K : PySem.W.Frag) : V → Option Int → Option Int → Hp → VK → Prop := fun x lo hi H Q => rSlL K x lo hi H Q ∨ (rSlA K x lo hi H Q ∨ rSlS x lo hi H Q)
theorem sl_all {X : Cx} : SlR X (rSl3 X.K) := sl_list.or (sl_tupA.or sl_str)
theorem opSl_ok : SlM K (rSl3 K) opSl := by
  intro L H h dx x lo hi Q E r px a
  unfold opSl at a
  cases e : slG dx lo hi h with
  | none => rw [e] at a; exact a.elim
  | some d =>
    rw [e] at a
    have big : (lstD dx h).map (fun ds => D.rol (cutD ds lo hi)) = some d → rSlL K x lo hi H Q := fun e => by
      obtain ⟨ds, e1, rfl⟩ := Option.map_eq_some_iff.mp e
      obtain ⟨p, xs, rfl, s, w⟩ := lstD_of r px e1
      exact ⟨p, xs, rfl, s, fun q hq => ans_of (rep_rol r hq w.cut) a⟩
    cases dx with
    | str s =>
      replace e : (if s.length ≤ 16777216 then some (D.str (cutS s lo hi)) else none) = some d := e
      split at e
      · rename_i z
        cases e
        exact .inr (.inr ⟨s, rep_str_inv px, szl z, ans_okE r rep_str a⟩)
      · cases e
    | tup ds =>
      cases e
      obtain ⟨p, xs, rfl, s, w⟩ := tup_of px
      refine .inr (.inl ⟨p, xs, rfl, s, fun z => ?_, fun z q hq => ans_of (rep_tup r hq w.cut) a⟩)
      have : cutD ds lo hi = ds := by
        unfold cutD
        rw [w.length, z.1, z.2, List.drop_zero, Nat.sub_zero, ← w.length, List.take_length]
      rw [this] at a
      exact ans_okE r px a
    | rol _ => exact .inl (big e)
    | ref _ => exact .inl (big e)
    | non => cases e
    | bl _ => cases e
    | int _ => cases e
    | obj _ => cases e
    | ty _ => cases e
    | kon _ => cases e
    | rdc _ _ => cases e
    | xo _ _ _ _ => cases e
def lenG (d : D) (h : MH) : Option Nat := match d with
  | .str s => if s.length ≤ 16777216 then some s.length else none
  | .tup ds => some ds.length
  | d => (match lstD d h with
    | some ds => some ds.length
    | none => (dicD d h).map (·.length))
def fLen (ds : List D) (h : MH) : R D := match ds with
  | [d] => (match lenG d h with | some n => .ok (.int n) h | none => .stuck)
  | _ => .stuck
def rLen2 (K : PySem.W.Frag) : List V → Hp → VK → Prop := fun xs H Q => (∃ x n, xs = [x] ∧ LenV K x H n ∧ Q (.int n) H) ∨ ∃ a kvs, xs = [V.ref a] ∧ H a = some (.dK kvs) ∧ Q (.int kvs.length) H
theorem call_len2 {X : Cx} : CallR X (.builtin "len") (rLen2 X.K) := call_len.or call_lenD
theorem RepL.one {L H d vs} (w : RepL K L H [d] vs) : ∃ v, vs = [v] ∧ Rep K L H d v := by
  obtain ⟨v, ws, rfl, q, w⟩ := w.cons_inv
  rw [w.nil_inv]
  exact ⟨v, rfl, q⟩
theorem RepL.two {L H d e vs} (w : RepL K L H [d, e] vs) : ∃ v u, vs = [v, u] ∧ Rep K L H d v ∧ Rep K L H e u := by
  obtain ⟨v, ws, rfl, q, w⟩ := w.cons_inv
  obtain ⟨u, rfl, q2⟩ := w.one
  exact ⟨v, u, rfl, q, q2⟩
theorem RepK.length {L H} : ∀ {ds : List (Key × D)} {vs}, RepK K L H ds vs → ds.length = vs.length
  | [], _, r => by cases r; rfl
  | d :: ds, _, ⟨v, vs, e, _, w⟩ => by subst e; rw [List.length_cons, List.length_cons, RepK.length w]
theorem fLen_ok : CallM K (rLen2 K) fLen := by
  intro L H h ds vs Q E r w a
  unfold fLen at a
  split at a
  · rename_i d
    obtain ⟨v, rfl, q⟩ := w.one
    cases e : lenG d h with
    | none => rw [e] at a; exact a.elim
    | some n =>
      simp only [e] at a
      have big : (match lstD d h with
        | some ds => some ds.length
        | none => (dicD d h).map (·.length)) = some n → rLen2 K [v] H Q := fun e => by
        split at e
        · rename_i ds e1
          cases e
          obtain ⟨p, xs, rfl, s, w⟩ := lstD_of r q e1
          exact .inl ⟨_, xs.length, rfl, .inl ⟨xs, s, rfl⟩, by rw [← w.length]; exact ans_okE r rep_int a⟩
        · obtain ⟨ds, e1, rfl⟩ := Option.map_eq_some_iff.mp e
          obtain ⟨p, xs, rfl, s, w⟩ := dicD_of r q e1
          exact .inr ⟨p, xs, rfl, s, by rw [← w.length]; exact ans_okE r rep_int a⟩
      cases d with
      | str s =>
        replace e : (if s.length ≤ 16777216 then some s.length else none) = some n := e
        split at e
        · rename_i z
          cases e
          exact .inl ⟨_, _, rfl, by rw [rep_str_inv q]; exact ⟨szl z, rfl⟩, ans_okE r rep_int a⟩
        · cases e
      | tup ds =>
        cases e
        obtain ⟨p, xs, rfl, s, w⟩ := tup_of q
        exact .inl ⟨_, xs.length, rfl, .inr ⟨xs, s, rfl⟩, by rw [← w.length]; exact ans_okE r rep_int a⟩
      | rol _ => exact big e
      | ref _ => exact big e
      | non => cases e
      | bl _ => cases e
      | int _ => cases e
      | obj _ => cases e
      | ty _ => cases e
      | kon _ => cases e
      | rdc _ _ => cases e
      | xo _ _ _ _ => cases e
  · exact a.elim
def fAbs (ds : List D) (h : MH) : R D := match ds with
  | [.int i] => .ok (.int (if i < 0 then -i else i)) h
  | _ => .stuck
theorem fAbs_ok : CallM K (fun xs H Q => ∃ i, xs = [.int i] ∧ Q (.int (if i < 0 then -i else i)) H) fAbs := by
  intro L H h ds vs Q E r w a
  unfold fAbs at a
  split at a
  · rename_i i
    obtain ⟨v, rfl, q⟩ := w.one
    exact ⟨i, by rw [rep_int_inv q], ans_okE r rep_int a⟩
  · exact a.elim
def rInt2 : List V → Hp → VK → Prop := fun xs H Q => ((∃ i, xs = [.int i] ∧ Q (.int i) H) ∨ ∃ k, xs = [.bl k] ∧ Q (.int (if k then 1 else 0)) H) ∨ ∃ a n, xs = [.str a] ∧ PySem.intText? a = some n ∧ a.length ≤ 640 ∧ Q (.int n) H
theorem call_int2 {X : Cx} : CallR X (.type "int") rInt2 := call_int1.or call_int_str
def fInt (ds : List D) (h : MH) : R D := match ds with
  | [.int i] => .ok (.int i) h
  | [.bl k] => .ok (.int (if k then 1 else 0)) h
  | [.str s] => if s.length ≤ 640 then (match PySem.intText? s with | some n => .ok (.int n) h | none => .stuck) else .stuck
  | _ => .stuck
theorem fInt_ok : CallM K rInt2 fInt := by
  intro L H h ds vs Q E r w a
  unfold fInt at a
  split at a
  · rename_i i
    obtain ⟨v, rfl, q⟩ := w.one
    exact .inl (.inl ⟨i, by rw [rep_int_inv q], ans_okE r rep_int a⟩)
  · rename_i i
    obtain ⟨v, rfl, q⟩ := w.one
    exact .inl (.inr ⟨i, by rw [rep_bl_inv q], ans_okE r rep_int a⟩)
  · rename_i s
    obtain ⟨v, rfl, q⟩ := w.one
    split at a
    · rename_i z
      split at a
      · rename_i n e
        exact .inr ⟨s, n, by rw [rep_str_inv q], e, z, ans_okE r rep_int a⟩
      · exact a.elim
    · exact a.elim
  · exact a.elim
def seqG (d : D) (h : MH) : Option (List D) := match d with
  | .tup ds => some ds
  | d => lstD d h
theorem seqG_of {L H} {h : MH} {d v ds} (r : Rel K L H h) (q : Rep K L H d v) (e : seqG d h = some ds) : ∃ p xs, v = .ref p ∧ (SqL K H p xs ∨ SqT K H p xs) ∧ RepL K L H ds xs := by
  cases d with
  | tup es =>
    cases e
    obtain ⟨p, xs, rfl, s, w⟩ := tup_of q
    exact ⟨p, xs, rfl, .inr s, w⟩
  | _ =>
    obtain ⟨p, xs, e1, s, w⟩ := lstD_of r q e
    exact ⟨p, xs, e1, .inl s, w⟩
def fList (ds : List D) (h : MH) : R D := match ds with
  | [d] => (match seqG d h with | some es => .ok (.rol es) h | none => .stuck)
  | _ => .stuck
def fListN (ds : List D) (h : MH) : R D := match ds with
  | [d] => (match seqG d h with | some es => .ok (.ref h.length) (h ++ [.lst es]) | none => .stuck)
  | _ => .stuck
def rListOf (K : PySem.W.Frag) : List V → Hp → VK → Prop := fun xs H Q => ∃ p ys, xs = [.ref p] ∧ (SqL K H p ys ∨ SqT K H p ys) ∧ ∀ l, H l = none → Q (.ref l) (upd H l (.lst ys))
theorem fList_ok : CallM K (rListOf K) fList := by
  intro L H h ds vs Q E r w a
  unfold fList at a
  split at a
  · rename_i d
    obtain ⟨v, rfl, q⟩ := w.one
    cases e : seqG d h with
    | none => rw [e] at a; exact a.elim
    | some es =>
      simp only [e] at a
      obtain ⟨p, xs, rfl, s, w2⟩ := seqG_of r q e
      exact ⟨p, xs, rfl, s, fun l hl => ans_of (rep_rol r hl w2) a⟩
  · exact a.elim
theorem fListN_ok : CallM K (rListOf K) fListN := by
  intro L H h ds vs Q E r w a
  unfold fListN at a
  split at a
  · rename_i d
    obtain ⟨v, rfl, q⟩ := w.one
    cases e : seqG d h with
    | none => rw [e] at a; exact a.elim
    | some es =>
      simp only [e] at a
      obtain ⟨p, xs, rfl, s, w2⟩ := seqG_of r q e
      exact ⟨p, xs, rfl, s, fun l hl => ans_of (rep_new r hl w2) a⟩
  · exact a.elim
def fTuple (ds : List D) (h : MH) : R D := match ds with
  | [d] => (match seqG d h with | some es => .ok (.tup es) h | none => .stuck)
  | _ => .stuck
def tyName (d : D) (h : MH) : Option String := match d with
  | .non => some "NoneType"
  | .bl _ => some "bool"
  | .int _ => some "int"
  | .str _ => some "str"
  | .tup _ => some "tuple"
  | .rol _ => some "list"
  | .ref n => (match h[n]? with
    | some (.lst _) => some "list"
    | some (.dic _) => some "dict"
    | _ => none)
  | _ => none
theorem tyName_of {L H} {h : MH} {d v n} (r : Rel K L H h) (q : Rep K L H d v) (e : tyName d h = some n) : TyX K H v (.type n) := by
  cases d with
  | non => cases e; rw [rep_non_inv q]; exact .base .non
  | bl _ => cases e; rw [rep_bl_inv q]; exact .base (.bl _)
  | int _ => cases e; rw [rep_int_inv q]; exact .base (.int _)
  | str _ => cases e; rw [rep_str_inv q]; exact .base (.str _)
  | tup ds =>
    cases e
    unfold Rep at q
    obtain ⟨p, xs, rfl, s, w⟩ := q
    rcases s with ⟨s | ⟨o, s⟩, _⟩ | ⟨o, its, k, h1, h2, _⟩
    · exact .base (.tup s)
    · exact .fTuple s
    · exact .kTuple h1 h2
  | rol ds =>
    cases e
    unfold Rep at q
    obtain ⟨p, xs, rfl, s, w⟩ := q
    rcases s with ⟨s | ⟨o, s⟩, _⟩ | ⟨o, its, k, h1, h2, _⟩
    · exact .base (.lst s)
    · exact .base (.frz s)
    · exact .kList h1 h2
  | ref k =>
    unfold tyName at e
    simp only at e
    split at e
    · rename_i ds z
      cases e
      obtain ⟨p, xs, e1, e2, w⟩ := r.lst z
      rw [q.ref e1]
      exact .base (.lst e2)
    · rename_i ds z
      cases e
      obtain ⟨p, xs, e1, e2, w⟩ := r.dic z
      rw [q.ref e1]
      exact .base (.dK e2)
    · cases e
  | obj _ => cases e
  | ty _ => cases e
  | kon _ => cases e
  | rdc _ _ => cases e
  | xo _ _ _ _ => cases e
def tyNames : List String := ["NoneType", "bool", "int", "str", "tuple", "list", "dict"]
def isTyB (a b : String) : Option Bool := if a ∈ tyNames ∧ b ∈ tyNames then some (a == b || (a == "bool" && b == "int")) else none
theorem kitB_tab : (tyNames.all fun a => tyNames.all fun b => b == "NoneType" || decide (kitB a b = some (a == b || (a == "bool" && b == "int")))) = true := by decide +kernel
theorem isTyB_ok {a b : String} {k : Bool} (e : isTyB a b = some k) (hb : b ≠ "NoneType") : kitB a b = some k := by
  unfold isTyB at e
  split at e
  · rename_i z
    have h1 := List.all_eq_true.mp kitB_tab a z.1
    have h2 := List.all_eq_true.mp h1 b z.2
    rw [Bool.or_eq_true] at h2
    rcases h2 with h2 | h2
    · exact absurd (beq_iff_eq.mp h2) hb
    · rw [← e]; exact of_decide_eq_true h2
  · cases e
def fIsi (ds : List D) (h : MH) : R D := match ds with
  | [d, .ty b] => if b = "NoneType" then .stuck else (match (tyName d h).bind fun a => isTyB a b with | some k => .ok (.bl k) h | none => .stuck)
  | _ => .stuck
theorem fIsi_ok : CallM K (rIsi K) fIsi := by
  intro L H h ds vs Q E r w a
  unfold fIsi at a
  split at a
  · rename_i d b
    obtain ⟨v, u, rfl, q1, q2⟩ := w.two
    split at a
    · exact a.elim
    rename_i hb
    cases e : (tyName d h).bind fun a => isTyB a b with
    | none => rw [e] at a; exact a.elim
    | some k =>
      simp only [e] at a
      obtain ⟨t, e1, e2⟩ := Option.bind_eq_some_iff.mp e
      rw [rep_ty_inv q2]
      exact ⟨v, .ty b, .type t, .type b, k, rfl, .ty b, tyName_of r q1 e1, kit_ty (isTyB_ok e2 hb), ans_okE r rep_bl a⟩
  · exact a.elim
end
end MM
namespace MM
open PySem PySem.Spec PyProof.Rows L2
section
variable {K : PySem.W.Frag}
def Rel.wr {L H} {h : MH} {n : Nat} {a : Addr} {ds vs} (r : Rel K L H h) (e : L[n]? = some (some a)) {xs0 : List V} (e0 : H a = some (.lst xs0)) (w : RepL K L H ds vs) : Ext L H L (upd H a (.lst vs)) ∧ Rel K L (upd H a (.lst vs)) (h.set n (.lst ds)) := by
  have nf : ∀ o u, H a ≠ some (.frz o u) := fun o u z => by rw [e0] at z; cases z
  exact r.write e nf ⟨a, vs, rfl, upd_same, w.mono (ext_write e nf)⟩
def fAppend (d : D) (ds : List D) (h : MH) : R D := match d, ds with
  | .ref n, [x] => (match lst? h n with
    | some es => if es.length < 16777216 then .ok .non (h.set n (.lst (es ++ [x]))) else .stuck
    | none => .stuck)
  | _, _ => .stuck
theorem fAppend_ok : MtdM K rAppend fAppend := by
  intro L H h d x ds vs Q E r q w a
  unfold fAppend at a
  split at a
  · rename_i n e
    obtain ⟨v, rfl, qv⟩ := w.one
    cases z : lst? h n with
    | none => rw [z] at a; exact a.elim
    | some es =>
      simp only [z] at a
      by_cases hz : es.length < 16777216
      · rw [if_pos hz] at a
        obtain ⟨p, xs, e1, e2, w1⟩ := r.lst (lst?_at z)
        obtain ⟨x1, r1⟩ := r.wr e1 e2 (w1.append (.cons qv .nil))
        exact ⟨p, xs, v, q.ref e1, rfl, e2, by rw [sizeLine_eq, ← w1.length]; exact hz, ans_of ⟨x1, r1, rep_none⟩ a⟩
      · rw [if_neg hz] at a; exact a.elim
  · exact a.elim
def ExtPost (l b : Addr) (o2 : Obj) (items items2 : Array Value) (n : Nat) (R : Result → Shared → Prop) (s : Shared) : Prop :=
  s.heap.get? l = some { cls := .type "list", data := .seq items n } ∧ s.heap.get? b = some o2 ∧
    R (.ok (.ret Value.none)) { s with heap := s.heap.update l (Obj.mapSeq fun x => x ++ items2), toks := s.toks }
theorem ext_tup (l b : Addr) (items items2 : Array Value) (n n2 : Nat) (dd : Option Addr) (sl : Array (Option Value)) (z : Builtin.List.listTooLong (items.size + items2.size) = false) (hs1 : items.size ≤ sizeLine) (hs2 : items.size + items2.size ≤ sizeLine + 1) :
    Meets (Builtin.«list.extend» ⟨[.ref l, .ref b], []⟩) (fun _ R s => ExtPost l b { cls := .type "tuple", dict := dd, data := .seq items2 n2, slots := sl } items items2 n R s) := by
  have big : ¬ (!items.isEmpty && Builtin.List.listTooLong (items.size + items2.size)) = true := by rw [z, Bool.and_false]; exact Bool.false_ne_true
  refine .of_wp fun prog w A R s q => ?_
  obtain ⟨hp, g, d, tk, os⟩ := s
  obtain ⟨q1, q2, q3⟩ := q
  have k1 := PySem.AutoSeq1.idx_int
  have k2 := PySem.AutoSeq1.sub_tuple_tuple
  have k3 := PySem.AutoSeq1.sub_list_list
  have k4 := PySem.AutoSeq1.sub_tuple_list
  have k5 := PySem.AutoSeq1.sub_list_tuple
  have sz : (items ++ items2).size ≤ sizeLine + 1 := by rw [Array.size_append]; exact hs2
  wp_walk using (wpAny_updateSeq q1 rfl (hz := hs1) (_hz' := sz)), PySem.AutoSeq1.wpAny_loadPart' q1, PySem.AutoSeq1.wpAny_loadPart' q2
  exact ⟨_, rfl, q3⟩
theorem ext_lst (l b : Addr) (items items2 : Array Value) (n n2 : Nat) (dd : Option Addr) (sl : Array (Option Value)) (z : Builtin.List.listTooLong (items.size + items2.size) = false) (hs1 : items.size ≤ sizeLine) (hs2 : items.size + items2.size ≤ sizeLine + 1) :
    Meets (Builtin.«list.extend» ⟨[.ref l, .ref b], []⟩) (fun _ R s => ExtPost l b { cls := .type "list", dict := dd, data := .seq items2 n2, slots := sl } items items2 n R s) := by
  have big : ¬ (!items.isEmpty && Builtin.List.listTooLong (items.size + items2.size)) = true := by rw [z, Bool.and_false]; exact Bool.false_ne_true
  refine .of_wp fun prog w A R s q => ?_
  obtain ⟨hp, g, d, tk, os⟩ := s
  obtain ⟨q1, q2, q3⟩ := q
  have k1 := PySem.AutoSeq1.idx_int
  have k2 := PySem.AutoSeq1.sub_tuple_tuple
  have k3 := PySem.AutoSeq1.sub_list_list
  have k4 := PySem.AutoSeq1.sub_tuple_list
  have k5 := PySem.AutoSeq1.sub_list_tuple
  have sz : (items ++ items2).size ≤ sizeLine + 1 := by rw [Array.size_append]; exact hs2
  wp_walk using (wpAny_updateSeq q1 rfl (hz := hs1) (_hz' := sz)), PySem.AutoSeq1.wpAny_loadPart' q1, PySem.AutoSeq1.wpAny_loadPart' q2
  exact ⟨_, rfl, q3⟩
def rExtend2 (K : PySem.W.Frag) : V → List V → Hp → VK → Prop := fun x vs H Q => ∃ l b xs zs, x = .ref l ∧ vs = [.ref b] ∧ H l = some (.lst xs) ∧ (SqL K H b zs ∨ SqT K H b zs) ∧ xs.length + zs.length ≤ sizeLine ∧ Q .non (upd H l (.lst (xs ++ zs)))
theorem mt_extend2 {X : Cx} : MtR X "list.extend" (rExtend2 X.K) := by
  intro pins s σ H x vs v us Q I rx rv h
  obtain ⟨l, b, xs, zs, rfl, rfl, hH, hB, hz, q⟩ := h
  obtain rfl : v = .ref l := rx
  obtain ⟨u, rfl, ru⟩ := vals1 rv
  obtain rfl : u = .ref b := ru
  obtain ⟨z, its, n, r, hl, e⟩ := I.lstM hH
  have fin : ∀ its2 : List Value, Vals zs its2 → its.toArray.size + its2.toArray.size ≤ sizeLine ∧ EP X pins σ Q .none { s with heap := s.heap.update l (Obj.mapSeq fun x => x ++ its2.toArray) } := fun its2 r2 => by
    have h2 := r2.length
    refine ⟨by rw [List.size_toArray, List.size_toArray]; omega, .non, _, I.lset (its' := its ++ its2) (t' := s.toks) hH e (by simp) (r.append r2) ?_, rfl, q⟩
    rw [List.length_append]; omega
  rcases hB with hB | hB
  · obtain ⟨its2, r2, ⟨o2, n2, e2, c2, dn2, d2⟩, _⟩ := I.list hB
    obtain ⟨f1, f2⟩ := fin its2 r2
    obtain ⟨oc, od, odt, osl⟩ := o2
    simp only at c2 dn2 d2
    subst c2 d2
    exact call_meets F.slot_list_extend ⟨_, e, rfl⟩ F.entry_list_extend (F.args_list_extend_2 _ _) (ext_lst l b its.toArray its2.toArray n n2 od osl (notLongL f1) (by rw [List.size_toArray]; omega) (by omega)) ⟨e, e2, f2⟩
  · obtain ⟨its2, r2, ⟨o2, e2, c2, n2, d2⟩, _⟩ := I.tuple hB
    obtain ⟨f1, f2⟩ := fin its2 r2
    obtain ⟨oc, od, odt, osl⟩ := o2
    simp only at c2 d2
    subst c2 d2
    exact call_meets F.slot_list_extend ⟨_, e, rfl⟩ F.entry_list_extend (F.args_list_extend_2 _ _) (ext_tup l b its.toArray its2.toArray n n2 od osl (notLongL f1) (by rw [List.size_toArray]; omega) (by omega)) ⟨e, e2, f2⟩
def fExtend (d : D) (ds : List D) (h : MH) : R D := match d, ds with
  | .ref n, [x] => (match lst? h n, seqG x h with
    | some es, some fs => if es.length + fs.length ≤ 16777216 then .ok .non (h.set n (.lst (es ++ fs))) else .stuck
    | _, _ => .stuck)
  | _, _ => .stuck
theorem fExtend_ok : MtdM K (rExtend2 K) fExtend := by
  intro L H h d x ds vs Q E r q w a
  unfold fExtend at a
  split at a
  · rename_i n e
    obtain ⟨v, rfl, qv⟩ := w.one
    split at a
    · rename_i es fs z1 z2
      split at a
      · rename_i hz
        obtain ⟨p, xs, e1, e2, w1⟩ := r.lst (lst?_at z1)
        obtain ⟨p2, ys, rfl, s2, w2⟩ := seqG_of r qv z2
        obtain ⟨x1, r1⟩ := r.wr e1 e2 (w1.append w2)
        exact ⟨p, p2, xs, ys, q.ref e1, rfl, e2, s2, by rw [sizeLine_eq, ← w1.length, ← w2.length]; exact hz, ans_of ⟨x1, r1, rep_none⟩ a⟩
      · exact a.elim
    · exact a.elim
  · exact a.elim
end
end MM
namespace MM
open PySem PySem.Spec PyProof.Rows L2
theorem Trod.lst {K L H} {h : MH} {d v ds p} (r : Rel K L H h) (q : Rep K L H d v) (e : lstD d h = some ds) (ev : v = .ref p) : Trod K L H (Itl K p) ds (fun h' => lstD d h' = some ds) := by
  have at' : ∀ L' H' h', Ext L H L' H' → Rel K L' H' h' → lstD d h' = some ds → ∃ ys, SqL K H' p ys ∧ RepL K L' H' ds ys := fun L' H' h' x r' e' => by
    obtain ⟨p', ys, e1, s, w⟩ := lstD_of r' (q.mono x) e'
    rw [ev] at e1; cases e1
    exact ⟨ys, s, w⟩
  refine ⟨fun L' H' h' i x r' e' hi => ?_, fun L' H' h' x r' e' => ?_, fun L' H' h' i x H'' y r' e' hi hy => ?_⟩
  · obtain ⟨ys, s, w⟩ := at' L' H' h' x r' e'
    obtain ⟨u, e1, _⟩ := w.get (List.getElem?_eq_getElem hi)
    exact ⟨ys, u, s, e1⟩
  · obtain ⟨ys, s, w⟩ := at' L' H' h' x r' e'
    exact ⟨ys, s, by rw [w.length]; exact Nat.le_refl _⟩
  · obtain ⟨ys, s, w⟩ := at' L' H' h' y r' e'
    obtain ⟨rfl, f⟩ := hy
    obtain ⟨c, e1, q1⟩ := w.get' (f ys s)
    exact ⟨Ext.refl _ _, r', c, e1, q1⟩
theorem Trod.tup {K L H} {h : MH} {v ds p} (q : Rep K L H (.tup ds) v) (ev : v = .ref p) (g : MH → Prop) : Trod K L H (Itt K p) ds g := by
  have at' : ∀ L' H', Ext L H L' H' → ∃ ys, SqT K H' p ys ∧ RepL K L' H' ds ys := fun L' H' x => by
    obtain ⟨p', ys, e1, s, w⟩ := tup_of (q.mono x)
    rw [ev] at e1; cases e1
    exact ⟨ys, s, w⟩
  refine ⟨fun L' H' h' i x r' e' hi => ?_, fun L' H' h' x r' e' => ?_, fun L' H' h' i x H'' y r' e' hi hy => ?_⟩
  · obtain ⟨ys, s, w⟩ := at' L' H' x
    obtain ⟨u, e1, _⟩ := w.get (List.getElem?_eq_getElem hi)
    exact ⟨ys, u, s, e1⟩
  · obtain ⟨ys, s, w⟩ := at' L' H' x
    exact ⟨ys, s, by rw [w.length]; exact Nat.le_refl _⟩
  · obtain ⟨ys, s, w⟩ := at' L' H' y
    obtain ⟨rfl, f⟩ := hy
    obtain ⟨c, e1, q1⟩ := w.get' (f ys s)
    exact ⟨Ext.refl _ _, r', c, e1, q1⟩
def charsD (s : Str) : List D := s.cps.toList.map fun c => .str ⟨#[c]⟩
theorem Trod.str {K L H} {s : Str} (g : MH → Prop) : Trod K L H (Its s) (charsD s) g := by
  refine ⟨fun L' H' h' i x r' e' hi => ?_, fun L' H' h' x r' e' => ?_, fun L' H' h' i x H'' y r' e' hi hy => ?_⟩
  · show i < s.cps.size
    simpa [charsD] using hi
  · show s.cps.size ≤ (charsD s).length
    simp [charsD]
  · obtain ⟨rfl, c, e1, rfl⟩ := hy
    refine ⟨Ext.refl _ _, r', .str ⟨#[c]⟩, ?_, rep_str⟩
    unfold charsD
    rw [List.getElem?_map, Array.getElem?_toList, e1]; rfl
def srcG (d : D) (h : MH) : Option Src := match d with
  | .str s => some ⟨charsD s, fun _ => True⟩
  | .tup ds => some ⟨ds, fun _ => True⟩
  | .rol ds => some ⟨ds, fun _ => True⟩
  | d => (lstD d h).map fun ds => ⟨ds, fun h' => lstD d h' = some ds⟩
def srcOf (d : D) (h : MH) : R Src := match srcG d h with
  | some S => .ok S h
  | none => .stuck
def mCallI (f : List D → MH → R Src) (m : MA) : MI := fun δ h => (m δ h).bnd f
def mSrc (m : ME) : MI := fun δ h => (m δ h).bnd srcOf
section
variable {X : Cx} {W : WX} {pos : Pos} {tg a e : Expr} {ma : ME} {es : List Expr} {mas : MA}
theorem Trod.weak {K L H J ds} {g g' : MH → Prop} (t : Trod K L H J ds g) (h : ∀ h, g' h → g h) : Trod K L H J ds g' :=
  ⟨fun L' H' h' i x r e => t.go L' H' h' i x r (h _ e), fun L' H' h' x r e => t.stop L' H' h' x r (h _ e), fun L' H' h' i x H'' y r e => t.yld L' H' h' i x H'' y r (h _ e)⟩
theorem pim_src (ha : PEM X W a ma) : PIM X W tg a (mSrc ma) := by
  refine PI.imp ((pi_list ha).or ((pi_tup ha).or (pi_str ha))) fun σ H R ⟨L, h, δ, r, s, q⟩ => ?_
  unfold mSrc at q
  have build : ∀ (G : VK), (match ma δ h with
      | .ok d h1 => ∀ L' H' v, Ext L H L' H' → Rel X.K L' H' h1 → Rep X.K L' H' d v → G v H'
      | .exc c fs h1 => ∀ L' H' dx xs, Ext L H L' H' → Rel X.K L' H' h1 → H' dx = some (.xd xs) → RepF X.K L' H' fs xs → ∀ ev, EV X.K c ev → W ev (some dx) σ H'
      | .stuck => False) → tE X.K W ma σ H G := fun G g => ⟨L, h, δ, r, s, by
    generalize ma δ h = m at g ⊢
    cases m <;> exact g⟩
  replace q : AnsI X.K W σ L H ((ma δ h).bnd srcOf) R := q
  generalize em : ma δ h = m at q build
  cases m with
  | stuck => exact q.elim
  | exc c fs h1 => exact .inl (build _ q)
  | ok d h1 =>
    have q' : ∀ S, srcOf d h1 = .ok S h1 → ∀ L1 H1 J, Ext L H L1 H1 → Rel X.K L1 H1 h1 → Trod X.K L1 H1 J S.ds S.g → R J H1 := fun S e => by
      rw [MM.R.bnd_ok, e] at q; exact q
    have no : srcOf d h1 = .stuck → False := fun e => by
      rw [MM.R.bnd_ok, e] at q; exact q
    have lst : ∀ ds (S : Src), lstD d h1 = some ds → srcOf d h1 = .ok S h1 → S.ds = ds → (∀ h, S.g h → lstD d h = some ds) → iList X.K (tE X.K W ma) σ H R := fun ds S e1 e2 e3 e4 => build _ fun L' H' v x r' p => by
      obtain ⟨ad, xs, ev, sq, w⟩ := lstD_of r' p e1
      exact ⟨ad, ev, ⟨xs, sq⟩, q' S e2 L' H' _ x r' (by rw [e3]; exact (Trod.lst r' p e1 ev).weak e4)⟩
    cases d with
    | str z => exact .inr (.inr (build _ fun L' H' v x r' p => ⟨z, rep_str_inv p, q' _ rfl L' H' _ x r' (Trod.str _)⟩))
    | tup ds =>
      exact .inr (.inl (build _ fun L' H' v x r' p => by
        obtain ⟨ad, xs, ev, sq, w⟩ := tup_of p
        exact ⟨ad, ev, ⟨xs, sq⟩, q' _ rfl L' H' _ x r' (Trod.tup (h := h1) p ev _)⟩))
    | rol ds => exact .inl (lst ds _ rfl rfl rfl fun _ _ => rfl)
    | ref n =>
      cases e1 : lstD (.ref n) h1 with
      | none => exact (no (by unfold srcOf srcG; simp only [e1]; rfl)).elim
      | some ds => exact .inl (lst ds ⟨ds, fun h' => lstD (.ref n) h' = some ds⟩ e1 (by unfold srcOf srcG; simp only [e1]; rfl) rfl fun _ z => z)
    | non => exact (no rfl).elim
    | bl _ => exact (no rfl).elim
    | int _ => exact (no rfl).elim
    | obj _ => exact (no rfl).elim
    | ty _ => exact (no rfl).elim
    | kon _ => exact (no rfl).elim
    | rdc _ _ => exact (no rfl).elim
    | xo _ _ _ _ => exact (no rfl).elim
theorem tI_args {K : PySem.W.Frag} {f : List D → MH → R Src} {G : List V → Hp → (It → Hp → Prop) → Prop} {mas : MA}
    (hG : ∀ L H h ds vs S (Q : It → Hp → Prop), Rel K L H h → RepL K L H ds vs → f ds h = .ok S h → (∀ J, Trod K L H J S.ds S.g → Q J H) → G vs H Q)
    (hf : ∀ ds h, (∃ S, f ds h = .ok S h) ∨ f ds h = .stuck) {σ : L2.St} {H : Hp} {Q : It → Hp → Prop} (t : tI K W (fun δ h => (mas δ h).bnd f) σ H Q) : tA K W mas σ H fun vs H1 => G vs H1 Q := by
  obtain ⟨L, h, δ, r, s, q⟩ := t
  refine ⟨L, h, δ, r, s, ?_⟩
  replace q : AnsI K W σ L H ((mas δ h).bnd f) Q := q
  generalize mas δ h = m at q ⊢
  cases m with
  | stuck => exact q
  | exc c fs h1 => exact q
  | ok ds h1 =>
    intro L' H' vs x r' w
    rcases hf ds h1 with ⟨S, e⟩ | e
    · rw [MM.R.bnd_ok, e] at q
      exact hG L' H' h1 ds vs S Q r' w e fun J t => q L' H' J x r' t
    · rw [MM.R.bnd_ok, e] at q
      exact q.elim
def fRange1 (ds : List D) (h : MH) : R Src := match ds with
  | [.int n] => if -(2 ^ 62) ≤ n ∧ n < 2 ^ 62 then .ok ⟨(List.range n.toNat).map fun (i : Nat) => .int i, fun _ => True⟩ h else .stuck
  | _ => .stuck
theorem Trod.rng {K L H} {lo : Int} {n : Nat} (g : MH → Prop) : Trod K L H (Itr lo n) ((List.range n).map fun (i : Nat) => .int (lo + i)) g := by
  refine ⟨fun L' H' h' i x r' e' hi => ?_, fun L' H' h' x r' e' => ?_, fun L' H' h' i x H'' y r' e' hi hy => ?_⟩
  · show i < n
    simpa using hi
  · show n ≤ _
    simp
  · obtain ⟨rfl, rfl⟩ := hy
    have hi' : i < n := by simpa using hi
    exact ⟨Ext.refl _ _, r', .int (lo + i), by rw [List.getElem?_map, List.getElem?_range hi']; rfl, rep_int⟩
theorem pim_range1 {p pos : Pos} (hg : Gl X "range") (hm : X.mg "range" = none) (ha : PAM X W [a] mas) (hs : starEach [a] X.env = [(false, eval a X.env)] := by rfl) : PIM X W tg (.Call (.Name "range" p) [a] [] pos) (fun δ h => (mas δ h).bnd fRange1) := by
  refine PI.imp (pi_range1 hg hm ha hs) fun σ H R t => ?_
  refine tI_args (G := fun vs H1 R => ∃ j : Int, vs = [.int j] ∧ -(2 ^ 62) ≤ j ∧ j < 2 ^ 62 ∧ R (Itr 0 j.toNat) H1) (fun L H h ds vs S Q r w e k => ?_) (fun ds h => ?_) t
  · unfold fRange1 at e
    split at e
    · rename_i n
      split at e
      · rename_i z
        cases e
        obtain ⟨v, rfl, q⟩ := w.one
        refine ⟨n, by rw [rep_int_inv q], z.1, z.2, k _ ?_⟩
        have := Trod.rng (K := X.K) (L := L) (H := H) (lo := 0) (n := n.toNat) (fun _ => True)
        simpa using this
      · cases e
    · cases e
  · unfold fRange1
    split
    · split
      · exact .inl ⟨_, rfl⟩
      · exact .inr rfl
    · exact .inr rfl
def fRange2 (ds : List D) (h : MH) : R Src := match ds with
  | [.int i, .int n] => if (-(2 ^ 62) ≤ i ∧ i < 2 ^ 62) ∧ -(2 ^ 62) ≤ n ∧ n < 2 ^ 62 then .ok ⟨(List.range (n - i).toNat).map fun (k : Nat) => .int (i + k), fun _ => True⟩ h else .stuck
  | _ => .stuck
theorem pim_range2 {b : Expr} {p pos : Pos} (hg : Gl X "range") (hm : X.mg "range" = none) (ha : PAM X W [a, b] mas) (hs : starEach [a, b] X.env = [(false, eval a X.env), (false, eval b X.env)] := by rfl) (hs2 : starEach [b] X.env = [(false, eval b X.env)] := by rfl) :
    PIM X W tg (.Call (.Name "range" p) [a, b] [] pos) (fun δ h => (mas δ h).bnd fRange2) := by
  refine PI.imp (pi_range2 hg hm ha hs hs2) fun σ H R t => ?_
  refine tI_args (G := fun vs H1 R => ∃ i j : Int, vs = [.int i, .int j] ∧ (-(2 ^ 62) ≤ i ∧ i < 2 ^ 62 ∧ -(2 ^ 62) ≤ j ∧ j < 2 ^ 62) ∧ R (Itr i (j - i).toNat) H1) (fun L H h ds vs S Q r w e k => ?_) (fun ds h => ?_) t
  · unfold fRange2 at e
    split at e
    · rename_i i n
      split at e
      · rename_i z
        cases e
        obtain ⟨v, u, rfl, q1, q2⟩ := w.two
        exact ⟨i, n, by rw [rep_int_inv q1, rep_int_inv q2], ⟨z.1.1, z.1.2, z.2.1, z.2.2⟩, k _ (Trod.rng _)⟩
      · cases e
    · cases e
  · unfold fRange2
    split
    · split
      · exact .inl ⟨_, rfl⟩
      · exact .inr rfl
    · exact .inr rfl
theorem Trod.pair {K : PySem.W.Frag} {L H} {J : It} {ds es : List D} {g : MH → Prop} {n : Nat} (h1 : ds.length = n) (h2 : es.length = n)
    (go : ∀ L' H' h' (i : Nat), Ext L H L' H' → Rel K L' H' h' → g h' → i < n → J.go i H') (stop : ∀ L' H' h', Ext L H L' H' → Rel K L' H' h' → g h' → J.stop n H')
    (yld : ∀ L' H' h' (i : Nat) v H'', Ext L H L' H' → Rel K L' H' h' → g h' → i < n → J.yld i H' v H'' → ∃ T x y, v = .ref T ∧ H' T = none ∧ H'' = upd H' T (.tup [x, y]) ∧ (∃ d, ds[i]? = some d ∧ Rep K L' H' d x) ∧ ∃ d, es[i]? = some d ∧ Rep K L' H' d y) :
    Trod K L H J (List.zipWith (fun x y => .tup [x, y]) ds es) g := by
  have hl : (List.zipWith (fun x y => D.tup [x, y]) ds es).length = n := by rw [List.length_zipWith, h1, h2, Nat.min_self]
  refine ⟨fun L' H' h' i x r' e' hi => go L' H' h' i x r' e' (by rw [← hl]; exact hi), fun L' H' h' x r' e' => by rw [hl]; exact stop L' H' h' x r' e', fun L' H' h' i x H'' y r' e' hi hy => ?_⟩
  obtain ⟨T, a, b, rfl, hT, rfl, ⟨d, e1, q1⟩, c, e2, q2⟩ := yld L' H' h' i x H'' y r' e' (by rw [← hl]; exact hi) hy
  obtain ⟨x1, r1, q⟩ := rep_tup r' hT (.cons q1 (.cons q2 .nil))
  exact ⟨x1, r1, .tup [d, c], by rw [List.getElem?_zipWith, e1, e2], q⟩
def fEnum (ds : List D) (h : MH) : R Src := match ds with
  | [d] => (match lstD d h with
    | some es => .ok ⟨List.zipWith (fun x y => .tup [x, y]) ((List.range es.length).map fun (i : Nat) => .int i) es, fun h' => lstD d h' = some es⟩ h
    | none => .stuck)
  | _ => .stuck
end
end MM
namespace MM
open PySem PySem.Spec PyProof.Rows L2
def setG (o i d : D) (h : MH) : Option MH := match o, i with
  | .ref n, .int j => (lst? h n).bind fun ds => (ixN ds.length j).map fun k => h.set n (.lst (ds.set k d))
  | _, _ => none
def mSetIx (m mo mi : ME) : MSt := fun δ h => (m δ h).st δ fun d h1 => (mo δ h1).st δ fun o h2 => (mi δ h2).st δ fun i h3 => match setG o i d h3 with
  | some h4 => .ok (.next δ) h4
  | none => .stuck
theorem setG_ok {K : PySem.W.Frag} {L H} {h h' : MH} {o i d : D} {vo vi v : V} {Q : Hp → Prop} (r : Rel K L H h) (po : Rep K L H o vo) (pi : Rep K L H i vi) (p : Rep K L H d v) (e : setG o i d h = some h')
    (k : ∀ H', Ext L H L H' → Rel K L H' h' → Q H') : rSetL vo vi v H Q := by
  unfold setG at e
  split at e
  · rename_i n j
    obtain ⟨ds, e1, e2⟩ := Option.bind_eq_some_iff.mp e
    obtain ⟨m, e3, rfl⟩ := Option.map_eq_some_iff.mp e2
    obtain ⟨a, xs, z1, z2, w⟩ := r.lst (lst?_at e1)
    obtain ⟨x1, r1⟩ := r.wr z1 z2 (RepL.set p m w)
    exact ⟨a, xs, j, m, po.ref z1, rep_int_inv pi, z2, by rw [← w.length]; exact e3, k _ x1 r1⟩
  · cases e
section
variable {X : Cx} {W : WX} {pos : Pos} {e o i : Expr} {me mo mi : ME}
def mAug (i : Nat) (f : D → D → MH → R D) (m : ME) : MSt := fun δ h => match δ[i]? with
  | some (some d) => (m δ h).st δ fun y h1 => (f d y h1).st δ fun z h2 => .ok (.next (δ.set i (some z))) h2
  | _ => .stuck
def frz (d : D) (h : MH) : R D := match d with
  | .ref n => (match lst? h n with
    | some ds => .ok (.rol ds) (h.set n .dead)
    | none => .stuck)
  | _ => .stuck
def mFrz (m : ME) : ME := fun δ h => (m δ h).bnd frz
end
section
variable {K : PySem.W.Frag}
end
end MM
namespace MM
open PySem PySem.Spec PyProof.Rows L2
mutual
def kRep (K : PySem.W.Frag) : D → Value → Bool
  | .non, .none => true
  | .bl b, .bool c => b == c
  | .int i, .int j _ => decide (i = j)
  | .str s, .str t _ => decide (s = t)
  | .obj a, .ref b => decide (a = b)
  | .tup ds, .ref a => (match K.lookup a with
    | some ⟨.type c, _, .seq its _, _⟩ => decide (c = "tuple") && (decide (its.size ≤ sizeLine) && kRepL K ds its.toList)
    | _ => false)
  | .rol ds, .ref a => (match K.lookup a with
    | some ⟨.type c, none, .seq its _, _⟩ => decide (c = "list") && (decide (its.size ≤ sizeLine) && kRepL K ds its.toList)
    | _ => false)
  | .kon n, .ref a => (match PySem.W.nsIn K mainGlobals n with
    | some (some (.ref b)) => decide (a = b)
    | _ => false)
  | _, _ => false
def kRepL (K : PySem.W.Frag) : List D → List Value → Bool
  | [], [] => true
  | d :: ds, v :: vs => kRep K d v && kRepL K ds vs
  | _, _ => false
end
section
variable {K : PySem.W.Frag}
theorem andT {a b : Bool} (h : (a && b) = true) : a = true ∧ b = true := by rwa [Bool.and_eq_true] at h
mutual
theorem kRep_ok : ∀ {d : D} {u : Value}, kRep K d u = true → ∃ v, RelV v u ∧ ∀ L H, Rep K L H d v
  | .non, u, h => by
    cases u <;> first | exact ⟨.non, rfl, fun _ _ => by unfold Rep; rfl⟩ | (unfold kRep at h; cases h)
  | .bl b, u, h => by
    cases u with
    | bool c =>
      unfold kRep at h
      rw [beq_iff_eq] at h
      subst h
      exact ⟨.bl b, rfl, fun _ _ => by unfold Rep; rfl⟩
    | _ => unfold kRep at h; cases h
  | .int i, u, h => by
    cases u with
    | int j t =>
      unfold kRep at h
      have := of_decide_eq_true h
      subst this
      exact ⟨.int i, ⟨_, rfl⟩, fun _ _ => by unfold Rep; rfl⟩
    | _ => unfold kRep at h; cases h
  | .str i, u, h => by
    cases u with
    | str j t =>
      unfold kRep at h
      have := of_decide_eq_true h
      subst this
      exact ⟨.str i, ⟨_, rfl⟩, fun _ _ => by unfold Rep; rfl⟩
    | _ => unfold kRep at h; cases h
  | .obj i, u, h => by
    cases u with
    | ref j =>
      unfold kRep at h
      have := of_decide_eq_true h
      subst this
      exact ⟨.ref i, rfl, fun _ _ => by unfold Rep; rfl⟩
    | _ => unfold kRep at h; cases h
  | .kon n, u, h => by
    cases u with
    | ref j =>
      unfold kRep at h
      split at h
      · rename_i b e
        have := of_decide_eq_true h
        subst this
        exact ⟨.ref j, rfl, fun _ _ => by unfold Rep; exact ⟨_, rfl, e⟩⟩
      · cases h
    | _ => unfold kRep at h; cases h
  | .tup ds, u, h => by
    cases u with
    | ref a =>
      unfold kRep at h
      split at h
      · rename_i c dd its n sl e
        obtain ⟨h1, h2⟩ := andT h
        obtain ⟨h2, h3⟩ := andT h2
        have h1 := of_decide_eq_true h1
        subst h1
        obtain ⟨vs, w, r⟩ := kRepL_ok h3
        exact ⟨.ref a, rfl, fun L H => by
          unfold Rep
          exact ⟨a, vs, rfl, .inr ⟨_, its, n, e, rfl, rfl, of_decide_eq_true h2, w⟩, r L H⟩⟩
      · cases h
    | _ => unfold kRep at h; cases h
  | .rol ds, u, h => by
    cases u with
    | ref a =>
      unfold kRep at h
      split at h
      · rename_i c its n sl e
        obtain ⟨h1, h2⟩ := andT h
        obtain ⟨h2, h3⟩ := andT h2
        have h1 := of_decide_eq_true h1
        subst h1
        obtain ⟨vs, w, r⟩ := kRepL_ok h3
        exact ⟨.ref a, rfl, fun L H => by
          unfold Rep
          exact ⟨a, vs, rfl, .inr ⟨_, its, n, e, rfl, rfl, rfl, of_decide_eq_true h2, w⟩, r L H⟩⟩
      · cases h
    | _ => unfold kRep at h; cases h
  | .ref _, _, h => by unfold kRep at h; cases h
  | .ty _, _, h => by unfold kRep at h; cases h
  | .rdc _ _, _, h => by unfold kRep at h; cases h
theorem kRepL_ok : ∀ {ds : List D} {us : List Value}, kRepL K ds us = true → ∃ vs, Vals vs us ∧ ∀ L H, RepL K L H ds vs
  | [], [], _ => ⟨[], .nil, fun _ _ => .nil⟩
  | [], _ :: _, h => by unfold kRepL at h; cases h
  | _ :: _, [], h => by unfold kRepL at h; cases h
  | d :: ds, u :: us, h => by
    unfold kRepL at h
    obtain ⟨h1, h2⟩ := andT h
    obtain ⟨v, r1, q1⟩ := kRep_ok h1
    obtain ⟨vs, r2, q2⟩ := kRepL_ok h2
    exact ⟨v :: vs, .cons r1 r2, fun L H => .cons (q1 L H) (q2 L H)⟩
end
end
def kDic (K : PySem.W.Frag) : List (Str × D) → List DictEntry → Bool
  | [], [] => true
  | p :: r, e :: es => (match e.key with | .str y _ => decide (p.1 = y) | _ => false) && (kRep K p.2 e.val && kDic K r es)
  | _, _ => false
def kvD (kvs : List (Str × D)) (x : Str) : Option D := (kvs.find? fun p => decide (p.1 = x)).map (·.2)
def KAt (K : PySem.W.Frag) (w : World) (mg : Str → Option Value) (c : Str) (kvs : List (Str × D)) : Prop := ∃ a es n, mg c = some (.ref a) ∧ KDict K w a es n ∧ kDic K kvs es.toList = true
theorem kDic_get {K : PySem.W.Frag} {x : Str} : ∀ {kvs : List (Str × D)} {es : List DictEntry}, kDic K kvs es = true → es.any (·.refKey) = false ∧
    match kvD kvs x with
    | some d => ∃ e v, es.find? (·.key.isStr x) = some e ∧ RelV v e.val ∧ ∀ L H, Rep K L H d v
    | none => es.find? (·.key.isStr x) = none
  | [], [], _ => ⟨rfl, rfl⟩
  | [], _ :: _, h => by unfold kDic at h; cases h
  | _ :: _, [], h => by unfold kDic at h; cases h
  | p :: r, e :: es, h => by
    unfold kDic at h
    obtain ⟨h1, h2⟩ := andT h
    obtain ⟨h2, h3⟩ := andT h2
    split at h1
    · rename_i y t ek
      have h1 := of_decide_eq_true h1
      obtain ⟨f1, f2⟩ := kDic_get (x := x) h3
      have rk : e.refKey = false := by unfold DictEntry.refKey; rw [ek]
      refine ⟨by rw [List.any_cons, rk, f1]; rfl, ?_⟩
      have ks : e.key.isStr x = decide (p.1 = x) := by
        rw [ek, h1]
        show decide _ = _
        exact decide_eq_decide.mpr ⟨fun z => z.symm ▸ rfl, fun z => z.symm ▸ rfl⟩
      unfold kvD
      rw [List.find?_cons, List.find?_cons, ks]
      by_cases hx : p.1 = x
      · rw [decide_eq_true hx]
        obtain ⟨v, r1, q1⟩ := kRep_ok h2
        exact ⟨e, v, rfl, r1, q1⟩
      · rw [decide_eq_false hx]
        exact f2
    · cases h1
theorem kat_get {K : PySem.W.Frag} {w : World} {a : Addr} {es : Array DictEntry} {n : Nat} {kvs : List (Str × D)} (D0 : KDict K w a es n) (h : kDic K kvs es.toList = true) (x : Str) :
    match kvD kvs x with
    | some d => ∃ u v, PySem.W.nsIn K a x = some (some u) ∧ RelV v u ∧ ∀ L H, Rep K L H d v
    | none => PySem.W.nsIn K a x = some none := by
  obtain ⟨f1, f2⟩ := kDic_get (x := x) h
  have e : PySem.W.nsIn K a x = match es.toList.find? (·.key.isStr x) with
      | some e => some (some e.val)
      | none => if es.toList.any (·.refKey) then none else some none := by
    unfold PySem.W.nsIn
    rw [D0.at_]; rfl
  cases hk : kvD kvs x with
  | some d =>
    rw [hk] at f2
    obtain ⟨en, v, g1, g2, g3⟩ := f2
    exact ⟨en.val, v, by rw [e, g1], g2, g3⟩
  | none =>
    rw [hk] at f2
    show PySem.W.nsIn K a x = some none
    rw [e, show es.toList.find? (·.key.isStr x) = none from f2, f1]; rfl
section
variable {X : Cx} {W : WX} {pos : Pos} {e f : Expr} {me mf : ME} {c : Str} {kvs : List (Str × D)}
def mKIx (kvs : List (Str × D)) (m : ME) : ME := fun δ h => (m δ h).bnd fun d h1 => match d with
  | .str x => (match kvD kvs x with | some r => .ok r h1 | none => .stuck)
  | _ => .stuck
theorem pem_kix {p : Pos} (k : KAt X.K X.w X.mg c kvs) (hg : Gl X c) (ha : PEM X W e me) (hs : PlainIx e) (hd : (c == ("__debug__" : Str)) = false := by decide) : PEM X W (.Subscript (.Name c p) e pos) (mKIx kvs me) := by
  obtain ⟨a, es, n, k1, k2, k3⟩ := k
  refine PE.imp (pe_ix ix_kdict (pe_glob (v := .ref a) hg k1 rfl hd) ha hs) fun σ H Q ⟨L, h, δ, r0, s, t⟩ => ?_
  refine ⟨L, h, δ, r0, s, Ans.imp (Ans.bind (rp := Rep X.K) t) fun v H1 ⟨L1, h1, d, x1, r1, p1, a1⟩ => ?_⟩
  split at a1
  · rename_i x
    have g := kat_get k2 k3 x
    split at a1
    · rename_i r er
      rw [er] at g
      obtain ⟨u, y, g1, g2, g3⟩ := g
      exact ⟨a, x, y, rfl, rep_str_inv p1, ⟨es, n, u, k2.at_, k2.lit, g1, g2⟩, ans_okE r1 (g3 _ _) a1⟩
    · exact a1.elim
  · exact a1.elim
end
section
variable {X : Cx} {W : WX} {pos : Pos} {o e f : Expr} {mo me mf : ME}
end
abbrev MPr := MS → MH → R (List (D × D))
section
variable {X : Cx} {W : WX} {pos : Pos} {k v : Expr} {ks : List (Option Expr)} {vs : List Expr} {mk' mv' : ME} {mr : MPr}
end
section
variable {K : PySem.W.Frag} {L : TL} {H : Hp} {p : Addr} {u : HO}
end
section
variable {K : PySem.W.Frag}
end
end MM
namespace MM
open PySem PySem.Spec PyProof.Rows L2
section
variable {δ : MS} {h h' : MH} {m a b c : ME} {ms : MA} {t u : MT} {f g : D → D → MH → R D}
@[simp] theorem mVar_eq {i : Nat} {d : D} (e : δ[i]? = some (some d)) : mVar i δ h = .ok d h := by unfold mVar; rw [e]
@[simp] theorem mC_eq {d : D} : mC d δ h = .ok d h := rfl
@[simp] theorem mOp_eq : mOp f a b δ h = (a δ h).bnd fun x h1 => (b δ h1).bnd fun y h2 => f x y h2 := rfl
@[simp] theorem mUn_eq {f : D → MH → R D} : mUn f a δ h = (a δ h).bnd fun x h1 => f x h1 := rfl
@[simp] theorem mNil_eq : mNil δ h = .ok [] h := rfl
@[simp] theorem mCons_eq : mCons m ms δ h = (m δ h).bnd fun d h1 => (ms δ h1).bnd fun ds h2 => .ok (d :: ds) h2 := rfl
@[simp] theorem mCall_eq {f : List D → MH → R D} : mCall f ms δ h = (ms δ h).bnd f := rfl
@[simp] theorem mTup_eq : mTup ms δ h = (ms δ h).bnd fun ds h1 => if ds.length ≤ 16777216 then .ok (.tup ds) h1 else .stuck := rfl
@[simp] theorem mLst_eq : mLst ms δ h = (ms δ h).bnd fun ds h1 => if ds.length ≤ 16777216 then .ok (.rol ds) h1 else .stuck := rfl
@[simp] theorem mLstN_eq : mLstN ms δ h = (ms δ h).bnd fun ds h1 => if ds.length ≤ 16777216 then .ok (.ref h1.length) (h1 ++ [.lst ds]) else .stuck := rfl
@[simp] theorem mIf_eq : mIf t a b δ h = (t δ h).bnd fun c h1 => if c then a δ h1 else b δ h1 := rfl
@[simp] theorem mB_eq : mB m δ h = (m δ h).bnd isB := rfl
@[simp] theorem isB_eq {k : Bool} : isB (.bl k) h = .ok k h := rfl
@[simp] theorem mTru_eq : mTru m δ h = (m δ h).bnd truD := rfl
@[simp] theorem mNot_eq : mNot t δ h = (t δ h).bnd fun b h1 => .ok (!b) h1 := rfl
@[simp] theorem mAnd_eq : mAnd t u δ h = (t δ h).bnd fun b h1 => if b then u δ h1 else .ok false h1 := rfl
@[simp] theorem mOr_eq : mOr t u δ h = (t δ h).bnd fun b h1 => if b then .ok true h1 else u δ h1 := rfl
@[simp] theorem mAndV_eq : mAndV a b δ h = (a δ h).bnd fun x h1 => (isB x h1).bnd fun k h2 => if k then b δ h2 else .ok (.bl false) h2 := rfl
@[simp] theorem mOrV_eq : mOrV a b δ h = (a δ h).bnd fun x h1 => (isB x h1).bnd fun k h2 => if k then .ok (.bl true) h2 else b δ h2 := rfl
@[simp] theorem mNotV_eq : mNotV a δ h = (a δ h).bnd fun x h1 => (isB x h1).bnd fun k h2 => .ok (.bl (!k)) h2 := rfl
@[simp] theorem mChain_eq : mChain f g a b c δ h = (a δ h).bnd fun x h1 => (b δ h1).bnd fun y h2 => (f x y h2).bnd fun z h3 => (isB z h3).bnd fun k h4 => if k then (c δ h4).bnd fun w h5 => g y w h5 else .ok (.bl false) h4 := rfl
@[simp] theorem mNoP_eq : mNoP δ h = .ok none h := rfl
@[simp] theorem mPart_eq {i : Int} (e : m δ h = .ok (.int i) h') : mPart m δ h = .ok (some i) h' := by unfold mPart; rw [e]; rfl
@[simp] theorem mPart_C {i : Int} : mPart (mC (.int i)) δ h = .ok (some i) h := rfl
@[simp] theorem mPart_V {k : Nat} {i : Int} (e : δ[k]? = some (some (.int i))) : mPart (mVar k) δ h = .ok (some i) h := by
  unfold mPart
  rw [mVar_eq e]; rfl
@[simp] theorem mSl_eq {f : D → Option Int → Option Int → MH → R D} {lo hi : MOp} : mSl f m lo hi δ h = (m δ h).bnd fun d h1 => (lo δ h1).bnd fun l h2 => (hi δ h2).bnd fun u h3 => f d l u h3 := rfl
@[simp] theorem mMtd_eq {T : String} {f : D → List D → MH → R D} : mMtd T f m ms δ h = (m δ h).bnd fun d h1 => if isTy T d h1 = true then (ms δ h1).bnd fun ds h2 => f d ds h2 else .stuck := rfl
@[simp] theorem mFrz_eq : mFrz m δ h = (m δ h).bnd frz := rfl
variable {A B : MSt}
@[simp] theorem mSet_eq {i : Nat} : mSet i m δ h = (m δ h).st δ fun d h1 => .ok (.next (δ.set i (some d))) h1 := rfl
@[simp] theorem mAsg_eq {g : MG} : mAsg m g δ h = (m δ h).st δ fun d h1 => match g d δ with | some δ' => .ok (.next δ') h1 | none => .stuck := rfl
@[simp] theorem mRet_eq : mRet m δ h = (m δ h).st δ fun d h1 => .ok (.ret d) h1 := rfl
@[simp] theorem mDrop_eq : mDrop m δ h = (m δ h).st δ fun _ h1 => .ok (.next δ) h1 := rfl
@[simp] theorem mIfS_eq : mIfS t A B δ h = (t δ h).st δ fun c h1 => if c then A δ h1 else B δ h1 := rfl
@[simp] theorem mSeq_eq : mSeq A B δ h = (A δ h).seq B := rfl
@[simp] theorem mNext_eq : mNext δ h = .ok (.next δ) h := rfl
@[simp] theorem mBrk_eq : mBrk δ h = .ok (.brk δ) h := rfl
@[simp] theorem mCont_eq : mCont δ h = .ok (.cont δ) h := rfl
@[simp] theorem mSetIx_eq {mo mi : ME} : mSetIx m mo mi δ h = (m δ h).st δ fun d h1 => (mo δ h1).st δ fun o h2 => (mi δ h2).st δ fun i h3 => match setG o i d h3 with | some h4 => .ok (.next δ) h4 | none => .stuck := rfl
@[simp] theorem mAug_eq {i : Nat} {d : D} (e : δ[i]? = some (some d)) : mAug i f m δ h = (m δ h).st δ fun y h1 => (f d y h1).st δ fun z h2 => .ok (.next (δ.set i (some z))) h2 := by unfold mAug; rw [e]
@[simp] theorem mFor_eq {src : MI} {tgt : MG} : mFor src tgt A δ h = (src δ h).st δ fun S h1 => forM S.g tgt A S.ds δ h1 := rfl
@[simp] theorem mCallI_eq {f : List D → MH → R Src} : mCallI f ms δ h = (ms δ h).bnd f := rfl
@[simp] theorem mSrc_eq : mSrc m δ h = (m δ h).bnd srcOf := rfl
@[simp] theorem srcOf_rol {ds : List D} : srcOf (.rol ds) h = .ok ⟨ds, fun _ => True⟩ h := rfl
@[simp] theorem srcOf_tup {ds : List D} : srcOf (.tup ds) h = .ok ⟨ds, fun _ => True⟩ h := rfl
@[simp] theorem srcOf_str {s : Str} : srcOf (.str s) h = .ok ⟨charsD s, fun _ => True⟩ h := rfl
@[simp] theorem mgName_eq {i : Nat} {d : D} : mgName i d δ = some (δ.set i (some d)) := rfl
@[simp] theorem SR.seq_stuck {k} : (SR.stuck).seq k = .stuck := rfl
@[simp] theorem opAdd_int {i j : Int} : opAdd (.int i) (.int j) h = .ok (.int (i + j)) h := rfl
@[simp] theorem opAddI_int {i j : Int} : opAddI (.int i) (.int j) h = .ok (.int (i + j)) h := rfl
@[simp] theorem opAdd_str {x y : Str} (e : x.length + y.length ≤ 16777216) : opAdd (.str x) (.str y) h = .ok (.str (x ++ y)) h := if_pos e
@[simp] theorem opAdd_tup {x y : List D} (e : x.length + y.length ≤ 16777216) : opAdd (.tup x) (.tup y) h = .ok (.tup (x ++ y)) h := if_pos e
@[simp] theorem opSub_int {i j : Int} : opSub (.int i) (.int j) h = .ok (.int (i - j)) h := rfl
@[simp] theorem opNeg_int {i : Int} : opNeg (.int i) h = .ok (.int (-i)) h := rfl
@[simp] theorem opMul_int {i j : Int} (e : i.natAbs.log2 + j.natAbs.log2 < 1000000) : opMul (.int i) (.int j) h = .ok (.int (i * j)) h := if_pos e
@[simp] theorem opMod_int {i j : Int} (e : 0 < j) : opMod (.int i) (.int j) h = .ok (.int (i % j)) h := if_pos e
theorem opDiv_int {i j : Int} (e : 0 < j) (e2 : j < 2 ^ 64) : opDiv (.int i) (.int j) h = .ok (.int (i / j)) h := by
  have nb : (2 : Nat) ^ 64 ≤ 2 ^ 2000 := Nat.pow_le_pow_right (by decide) (by decide)
  have big : (2 : Int) ^ 64 ≤ 2 ^ 2000 := by exact_mod_cast nb
  exact if_pos ⟨e, Int.lt_of_lt_of_le e2 big⟩
@[simp] theorem opLt_int {i j : Int} : opLt (.int i) (.int j) h = .ok (.bl (decide (i < j))) h := rfl
@[simp] theorem opLe_int {i j : Int} : opLe (.int i) (.int j) h = .ok (.bl (decide (i ≤ j))) h := rfl
@[simp] theorem opGt_int {i j : Int} : opGt (.int i) (.int j) h = .ok (.bl (decide (j < i))) h := rfl
@[simp] theorem opGe_int {i j : Int} : opGe (.int i) (.int j) h = .ok (.bl (decide (j ≤ i))) h := rfl
theorem opEq_S {x y : D} {k : Bool} (e : eqS x y = some k) : opEq x y h = .ok (.bl k) h := by unfold opEq eqG; rw [e]
theorem opNe_S {x y : D} {k : Bool} (e : eqS x y = some k) : opNe x y h = .ok (.bl (!k)) h := by unfold opNe eqG; rw [e]
@[simp] theorem opEq_int {i j : Int} : opEq (.int i) (.int j) h = .ok (.bl (decide (i = j))) h := opEq_S rfl
@[simp] theorem opEq_str {i j : Str} : opEq (.str i) (.str j) h = .ok (.bl (decide (i = j))) h := opEq_S rfl
@[simp] theorem opEq_bl {i j : Bool} : opEq (.bl i) (.bl j) h = .ok (.bl (decide (i = j))) h := opEq_S rfl
@[simp] theorem opNe_int {i j : Int} : opNe (.int i) (.int j) h = .ok (.bl (!decide (i = j))) h := opNe_S rfl
@[simp] theorem opNe_str {i j : Str} : opNe (.str i) (.str j) h = .ok (.bl (!decide (i = j))) h := opNe_S rfl
@[simp] theorem opNe_bl {i j : Bool} : opNe (.bl i) (.bl j) h = .ok (.bl (!decide (i = j))) h := opNe_S rfl
@[simp] theorem opIsN_eq {x : D} : opIsN x .non h = .ok (.bl (isNon x)) h := rfl
@[simp] theorem opNotN_eq {x : D} : opNotN x .non h = .ok (.bl (!isNon x)) h := rfl
@[simp] theorem isNon_non : isNon .non = true := rfl
@[simp] theorem isNon_int {i} : isNon (.int i) = false := rfl
@[simp] theorem isNon_str {i} : isNon (.str i) = false := rfl
@[simp] theorem isNon_bl {i} : isNon (.bl i) = false := rfl
@[simp] theorem isNon_tup {i} : isNon (.tup i) = false := rfl
@[simp] theorem isNon_rol {i} : isNon (.rol i) = false := rfl
@[simp] theorem truD_bl {k : Bool} : truD (.bl k) h = .ok k h := rfl
@[simp] theorem truD_non : truD .non h = .ok false h := rfl
@[simp] theorem truD_int {i : Int} : truD (.int i) h = .ok (i != 0) h := rfl
@[simp] theorem truD_tup {ds} : truD (.tup ds) h = .ok (!ds.isEmpty) h := rfl
@[simp] theorem truD_rol {ds} : truD (.rol ds) h = .ok (!ds.isEmpty) h := rfl
@[simp] theorem truD_ref {n ds} (e : lst? h n = some ds) : truD (.ref n) h = .ok (!ds.isEmpty) h := by
  show (match lst? h n with | some ds => _ | none => _) = _
  rw [e]
@[simp] theorem lstD_rol {ds} : lstD (.rol ds) h = some ds := rfl
@[simp] theorem lstD_ref {n} : lstD (.ref n) h = lst? h n := rfl
@[simp] theorem seqG_rol {ds} : seqG (.rol ds) h = some ds := rfl
@[simp] theorem seqG_tup {ds} : seqG (.tup ds) h = some ds := rfl
@[simp] theorem seqG_ref {n} : seqG (.ref n) h = lst? h n := rfl
theorem lst?_of {n : Nat} {ds} (e : h[n]? = some (.lst ds)) : lst? h n = some ds := by unfold lst?; rw [e]
theorem atI_ok {α : Type} {xs : List α} {i : Int} {x : α} (h0 : 0 ≤ i) (e : xs[i.toNat]? = some x) : L2.atI xs i = some x := by
  have := atI_nat e
  rw [Int.toNat_of_nonneg h0] at this
  exact this
theorem ixG_dG {x y : D} {d : D} (e : ixG x y h = some d) : dG x y h = none := by
  unfold ixG at e
  split at e
  · rename_i i
    cases x with
    | rdc ks ds => cases e
    | xo _ _ _ _ => cases e
    | ref n =>
      obtain ⟨ds, e1, e2⟩ := Option.bind_eq_some_iff.mp e
      have := lst?_at (show lst? h n = some ds from e1)
      show (dic? h n).bind _ = none
      unfold dic?
      rw [this]; rfl
    | _ => rfl
  · cases e
theorem opIx_of {x y : D} {d : D} (e : ixG x y h = some d) : opIx x y h = .ok d h := by
  unfold opIx
  rw [ixG_dG e]
  show opIx0 x y h = _
  unfold opIx0
  rw [e]
theorem opIx_dic {x y : D} {d : D} (e : dG x y h = some (some d)) : opIx x y h = .ok d h := by
  unfold opIx
  rw [e]
@[simp] theorem ixG_tup {ds} {i : Int} : ixG (.tup ds) (.int i) h = L2.atI ds i := rfl
@[simp] theorem ixG_rol {ds} {i : Int} : ixG (.rol ds) (.int i) h = L2.atI ds i := rfl
@[simp] theorem ixG_ref {n} {i : Int} : ixG (.ref n) (.int i) h = (lst? h n).bind fun ds => L2.atI ds i := rfl
@[simp] theorem isTy_str {T : String} {s : Str} : isTy T (.str s) h = (T == "str") := rfl
@[simp] theorem isTy_rol {T : String} {ds} : isTy T (.rol ds) h = (T == "list") := rfl
@[simp] theorem isTy_ref {T : String} {n ds} (e : lst? h n = some ds) : isTy T (.ref n) h = (T == "list") := by
  unfold isTy
  simp only [lst?_at e]
@[simp] theorem fInt_int {i : Int} : fInt [.int i] h = .ok (.int i) h := rfl
@[simp] theorem fAbs_int {i : Int} : fAbs [.int i] h = .ok (.int (if i < 0 then -i else i)) h := rfl
@[simp] theorem fIsi_int_int : fIsi [.int 0, .ty "int"] h = fIsi [.int 0, .ty "int"] h := rfl
theorem fIsi_of {d : D} {b : String} {n : String} {k : Bool} (e : tyName d h = some n) (e2 : isTyB n b = some k) (e3 : b ≠ "NoneType") : fIsi [d, .ty b] h = .ok (.bl k) h := by
  unfold fIsi
  simp only [if_neg e3, e, Option.bind_some, e2]
@[simp] theorem fList_eq {d : D} {es} (e : seqG d h = some es) : fList [d] h = .ok (.rol es) h := by unfold fList; simp only [e]
@[simp] theorem fListN_eq {d : D} {es} (e : seqG d h = some es) : fListN [d] h = .ok (.ref h.length) (h ++ [.lst es]) := by unfold fListN; simp only [e]
@[simp] theorem fTuple_eq {d : D} {es} (e : seqG d h = some es) : fTuple [d] h = .ok (.tup es) h := by unfold fTuple; simp only [e]
@[simp] theorem fLen_rol {ds} : fLen [.rol ds] h = .ok (.int ds.length) h := rfl
@[simp] theorem fLen_tup {ds} : fLen [.tup ds] h = .ok (.int ds.length) h := rfl
@[simp] theorem fLen_str {s : Str} (e : s.length ≤ 16777216) : fLen [.str s] h = .ok (.int s.length) h := by
  unfold fLen lenG
  simp only [if_pos e]
@[simp] theorem fLen_ref {n : Nat} {ds} (e : lst? h n = some ds) : fLen [.ref n] h = .ok (.int ds.length) h := by
  unfold fLen lenG
  simp only [lstD_ref, e]
end
theorem LeftOf.refl (h : MH) : LeftOf h h := ⟨Nat.le_refl _, fun _ _ _ e => .inl e⟩
theorem LeftOf.app {h k g : MH} (l : LeftOf h k) : LeftOf h (k ++ g) := by
  refine ⟨by rw [List.length_append]; exact Nat.le_add_right_of_le l.1, fun n o hn e => ?_⟩
  rw [List.getElem?_append_left (by have := l.1; omega)] at e
  exact l.2 n o hn e
theorem LeftOf.set {h k : MH} {n : Nat} {o : MO} (l : LeftOf h k) (q : o.lows h.length = true ∨ h.length ≤ n) : LeftOf h (k.set n o) := by
  refine ⟨by rw [List.length_set]; exact l.1, fun m u hm e => ?_⟩
  by_cases z : n = m
  · subst z
    rw [List.getElem?_set_self (by have := l.1; omega)] at e
    cases e
    rcases q with q | q
    · exact .inr q
    · omega
  · rw [List.getElem?_set_ne z] at e
    exact l.2 m u hm e
theorem leave_eq {h h' : MH} {d : D} (l : LeftOf h h') (q : d.lows h.length = true) : leave h d h' = .ok d (h'.take h.length) := if_pos ⟨l, q⟩
theorem take_app {h k g : MH} (e : k.length = h.length) : (k ++ g).take h.length = k := by rw [← e, List.take_left']; rfl
theorem mFn_eq {n N : Nat} {ms : MSt} {ds : List D} {h : MH} (e : ds.length = n) : mFn n N ms ds h = mEnd h (ms (mStart N ds) h) := if_pos e
theorem mFnN_eq {n N : Nat} {ms : MSt} {ds : List D} {h : MH} (e : ds.length = n) : mFnN n N ms ds h = mEndN (ms (mStart N ds) h) := if_pos e
theorem mFn_ret {n N : Nat} {ms : MSt} {ds : List D} {h h' k g : MH} {d : D} (e : ds.length = n) (r : ms (mStart N ds) h = .ok (.ret d) h') (eg : h' = k ++ g) (el : k.length = h.length) (l : LeftOf h k) (q : d.lows h.length = true) : mFn n N ms ds h = .ok d k := by
  rw [mFn_eq e, r, eg]
  show leave h d (k ++ g) = _
  rw [leave_eq l.app q, take_app el]
theorem mFn_pure {n N : Nat} {ms : MSt} {ds : List D} {h g : MH} {d : D} (e : ds.length = n) (r : ms (mStart N ds) h = .ok (.ret d) (h ++ g)) (q : d.lows h.length = true) : mFn n N ms ds h = .ok d h := mFn_ret e r rfl rfl (LeftOf.refl h) q
theorem mFn_pure0 {n N : Nat} {ms : MSt} {ds : List D} {h : MH} {d : D} (e : ds.length = n) (r : ms (mStart N ds) h = .ok (.ret d) h) (q : d.lows h.length = true) : mFn n N ms ds h = .ok d h := mFn_pure (g := []) e (by rw [List.append_nil]; exact r) q
theorem forM_ind {g : MH → Prop} {tgt : MG} {body : MSt} {Post : SR → Prop} (I : List D → MS → MH → Prop)
    (hnil : ∀ δ h, I [] δ h → g h ∧ Post (.ok (.next δ) h))
    (hcons : ∀ x r δ h, I (x :: r) δ h → g h ∧ ∃ δ1, tgt x δ = some δ1 ∧ ((∃ δ2 h2, body δ1 h = .ok (.next δ2) h2 ∧ I r δ2 h2) ∨ (∃ δ2 h2, body δ1 h = .ok (.cont δ2) h2 ∧ I r δ2 h2) ∨ (∃ δ2 h2, body δ1 h = .ok (.brk δ2) h2 ∧ Post (.ok (.next δ2) h2)) ∨ (∃ d h2, body δ1 h = .ok (.ret d) h2 ∧ Post (.ok (.ret d) h2)) ∨ ∃ c fs δ2 h2, body δ1 h = .exc c fs δ2 h2 ∧ Post (.exc c fs δ2 h2))) :
    ∀ {ds : List D} {δ : MS} {h : MH}, I ds δ h → Post (forM g tgt body ds δ h)
  | [], δ, h, i => by
    obtain ⟨h1, h2⟩ := hnil δ h i
    unfold forM
    rw [if_pos h1]; exact h2
  | x :: r, δ, h, i => by
    obtain ⟨h1, δ1, e1, z⟩ := hcons x r δ h i
    unfold forM
    rw [if_pos h1, e1]
    rcases z with ⟨δ2, h2, e2, i2⟩ | ⟨δ2, h2, e2, i2⟩ | ⟨δ2, h2, e2, i2⟩ | ⟨d, h2, e2, i2⟩ | ⟨c, fs, δ2, h2, e2, i2⟩
    · simp only [e2]; exact forM_ind I hnil hcons i2
    · simp only [e2]; exact forM_ind I hnil hcons i2
    · simp only [e2]; exact i2
    · simp only [e2]; exact i2
    · simp only [e2]; exact i2
theorem compM_ind {g : MH → Prop} {tgt : MG} {elt : ME} {n : Nat} {δ0 : MS} (I : List D → List D → MH → Prop) (hI : ∀ r acc k, I r acc k → k.length = n ∧ acc.length + r.length < 16777216)
    (hg : ∀ r acc k, I r acc k → g (k ++ [.lst acc]))
    (hcons : ∀ x r acc k, I (x :: r) acc k → ∃ δ1 y k', tgt x δ0 = some δ1 ∧ elt δ1 (k ++ [.lst acc]) = .ok y (k' ++ [.lst acc]) ∧ I r (acc ++ [y]) k') :
    ∀ {ds acc : List D} {k : MH}, I ds acc k → ∃ acc' k', I [] acc' k' ∧ compM g tgt mYes elt n δ0 ds (k ++ [.lst acc]) = .ok () (k' ++ [.lst acc'])
  | [], acc, k, i => ⟨acc, k, i, by unfold compM; rw [if_pos (hg _ _ _ i)]⟩
  | x :: r, acc, k, i => by
    obtain ⟨δ1, y, k', e1, e2, i2⟩ := hcons x r acc k i
    obtain ⟨acc', k'', i3, e3⟩ := compM_ind I hI hg hcons i2
    refine ⟨acc', k'', i3, ?_⟩
    have hk := (hI _ _ _ i2).1
    have hz := (hI _ _ _ i).2
    have el : lst? (k' ++ [.lst acc]) n = some acc := lst?_of (by rw [← hk]; simp)
    have es : (k' ++ [MO.lst acc]).set n (.lst (acc ++ [y])) = k' ++ [.lst (acc ++ [y])] := by rw [← hk]; simp
    unfold compM
    rw [if_pos (hg _ _ _ i), e1]
    show ((R.ok true (k ++ [.lst acc])).nx.bnd _) = _
    simp only [R.nx_ok, R.bnd_ok, if_true, e2, el, es]
    rw [if_pos (by simp at hz; omega)]
    exact e3
theorem mLc_ind {src : MI} {tgt : MG} {elt : ME} {vs : List Nat} {δ : MS} {h h1 : MH} {S : Src} (es : src δ h = .ok S h1) (I : List D → List D → MH → Prop) (h0 : I S.ds [] h1) (hI : ∀ r acc k, I r acc k → k.length = h1.length ∧ acc.length + r.length < 16777216)
    (hg : ∀ r acc k, I r acc k → S.g (k ++ [.lst acc]))
    (hcons : ∀ x r acc k, I (x :: r) acc k → ∃ δ1 y k', tgt x (wipeM δ vs) = some δ1 ∧ elt δ1 (k ++ [.lst acc]) = .ok y (k' ++ [.lst acc]) ∧ I r (acc ++ [y]) k')
    (hend : ∀ acc k, I [] acc k → LeftOf h1 k ∧ lowsL h1.length acc = true) : ∃ acc k, I [] acc k ∧ mLc src tgt mYes elt vs δ h = .ok (.rol acc) k := by
  obtain ⟨acc, k, i, e⟩ := compM_ind (n := h1.length) I hI hg hcons h0
  refine ⟨acc, k, i, ?_⟩
  have hk := (hI _ _ _ i).1
  obtain ⟨l, q⟩ := hend acc k i
  unfold mLc
  rw [es, R.bnd_ok, e, R.bnd_ok]
  have el : lst? (k ++ [.lst acc]) h1.length = some acc := lst?_of (by rw [← hk]; simp)
  simp only [el]
  have es : (k ++ [MO.lst acc]).set h1.length .dead = k ++ [.dead] := by rw [← hk]; simp
  rw [es, leave_eq l.app (by unfold D.lows; exact q), take_app hk]
theorem mLc_map {src : MI} {tgt : MG} {elt : ME} {vs : List Nat} {δ : MS} {h h1 : MH} {S : Src} (f : D → D) (es : src δ h = .ok S h1) (hg : ∀ k, S.g (h1 ++ k)) (hz : S.ds.length < 16777216)
    (he : ∀ x ∈ S.ds, ∃ δ1, tgt x (wipeM δ vs) = some δ1 ∧ ∀ k, elt δ1 (h1 ++ k) = .ok (f x) (h1 ++ k)) (hl : ∀ x ∈ S.ds, (f x).lows h1.length = true) : mLc src tgt mYes elt vs δ h = .ok (.rol (S.ds.map f)) h1 := by
  have lowsM : ∀ l : List D, (∀ x ∈ l, (f x).lows h1.length = true) → lowsL h1.length (l.map f) = true := fun l => by
    induction l with
    | nil => intro _; rfl
    | cons x r ih =>
      intro q
      show ((f x).lows h1.length && lowsL h1.length (r.map f)) = true
      rw [q x (by simp), ih fun y hy => q y (by simp [hy])]; rfl
  obtain ⟨acc, k, ⟨i1, i2, i3⟩, e⟩ := mLc_ind (vs := vs) (elt := elt) (tgt := tgt) es (fun r acc k => k = h1 ∧ acc ++ r.map f = S.ds.map f ∧ ∀ x ∈ r, x ∈ S.ds) ⟨rfl, rfl, fun x hx => hx⟩
    (fun r acc k ⟨a, b, _⟩ => ⟨by rw [a], by
      have := congrArg List.length b
      rw [List.length_append, List.length_map, List.length_map] at this; omega⟩)
    (fun r acc k ⟨a, _, _⟩ => by rw [a]; exact hg _)
    (fun x r acc k ⟨a, b, c⟩ => by
      obtain ⟨δ1, e1, e2⟩ := he x (c x (by simp))
      exact ⟨δ1, f x, h1, e1, by rw [a]; exact e2 _, rfl, by rw [← b]; simp, fun y hy => c y (by simp [hy])⟩)
    (fun acc k ⟨a, b, c⟩ => ⟨by rw [a]; exact LeftOf.refl _, by
      have : acc = S.ds.map f := by simpa using b
      rw [this]; exact lowsM _ hl⟩)
  have : acc = S.ds.map f := by simpa using i2
  rw [e, this, i1]
structure DS where
  cells : List Int
  rest : Int
  at' : Int
  seed : Int
def DS.enc (s : DS) : MO := .lst [.rol (s.cells.map .int), .int s.rest, .int s.at', .int s.seed]
structure DS.Ok (s : DS) : Prop where
  a0 : 0 ≤ s.at'
  s0 : 0 ≤ s.seed
  s1 : s.seed ≤ 2147483630
theorem DS.enc_lows (s : DS) (n : Nat) : s.enc.lows n = true := by
  have : ∀ l : List Int, lowsL n (l.map D.int) = true := fun l => by
    induction l with
    | nil => rfl
    | cons x r ih => show (true && lowsL n (r.map D.int)) = true; rw [ih]; rfl
  show ((D.rol (s.cells.map .int)).lows n && _) = true
  rw [show (D.rol (s.cells.map .int)).lows n = lowsL n (s.cells.map .int) from rfl, this]; rfl
end MM
namespace MM
open PySem PySem.Spec PyProof.Rows L2
noncomputable def bStart : MSt :=
  mSeq (mSet 1 (mC (.int 7))) (mSeq (mFor (mSrc (mVar 0)) (mgName 2) (mSet 1 (mOp opAdd (mOp opMod (mCall fInt (mCons (mOp opAdd (mOp opMul (mVar 1) (mC (.int 48271))) (mVar 2)) (mNil))) (mC (.int 2147483629))) (mC (.int 1))))) (mRet (mLstN (mCons (mCall fList (mCons (mVar 0) (mNil))) (mCons (mC (.int 0)) (mCons (mC (.int 0)) (mCons (mVar 1) (mNil))))))))
section
variable {h : MH} {n : Nat} {s : DS} {many : Int}
theorem DS.lst (e : h[n]? = some s.enc) : lst? h n = some [.rol (s.cells.map .int), .int s.rest, .int s.at', .int s.seed] := lst?_of e
theorem DS.ix0 (e : h[n]? = some s.enc) : opIx (.ref n) (.int 0) h = .ok (.rol (s.cells.map .int)) h := opIx_of (by rw [ixG_ref, DS.lst e]; rfl)
theorem DS.ix1 (e : h[n]? = some s.enc) : opIx (.ref n) (.int 1) h = .ok (.int s.rest) h := opIx_of (by rw [ixG_ref, DS.lst e]; rfl)
theorem DS.ix2 (e : h[n]? = some s.enc) : opIx (.ref n) (.int 2) h = .ok (.int s.at') h := opIx_of (by rw [ixG_ref, DS.lst e]; rfl)
theorem DS.ix3 (e : h[n]? = some s.enc) : opIx (.ref n) (.int 3) h = .ok (.int s.seed) h := opIx_of (by rw [ixG_ref, DS.lst e]; rfl)
theorem log_le {i : Int} (h0 : 0 ≤ i) (h1 : i ≤ 2147483630) : i.natAbs.log2 < 32 := by
  by_cases z : i.natAbs = 0
  · rw [z]; decide
  · rw [Nat.log2_lt z]; omega
theorem start_ok {ns : List Int} {h : MH} : ∃ s : DS, s.Ok ∧ s.cells = ns ∧ mFnN 1 3 bStart [.rol (ns.map D.int)] h = .ok (.ref h.length) (h ++ [s.enc]) := by
  have lp : ∃ v : Int, (0 ≤ v ∧ v ≤ 2147483630) ∧ ∃ x, forM (fun _ => True) (mgName 2) (mSet 1 (mOp opAdd (mOp opMod (mCall fInt (mCons (mOp opAdd (mOp opMul (mVar 1) (mC (.int 48271))) (mVar 2)) (mNil))) (mC (.int 2147483629))) (mC (.int 1)))) (ns.map D.int) [some (.rol (ns.map D.int)), some (.int 7), none] h =
      .ok (.next [some (.rol (ns.map D.int)), some (.int v), x]) h := by
    refine forM_ind (Post := fun r => ∃ v : Int, (0 ≤ v ∧ v ≤ 2147483630) ∧ ∃ x, r = .ok (.next [some (.rol (ns.map D.int)), some (.int v), x]) h)
      (fun ds δ h' => h' = h ∧ (∃ ms : List Int, ds = ms.map D.int) ∧ ∃ v : Int, (0 ≤ v ∧ v ≤ 2147483630) ∧ ∃ x, δ = [some (.rol (ns.map D.int)), some (.int v), x]) ?_ ?_ ⟨rfl, ⟨ns, rfl⟩, 7, by omega, none, rfl⟩
    · rintro δ h' ⟨rfl, _, v, hv, x, rfl⟩
      exact ⟨trivial, v, hv, x, rfl⟩
    · rintro y r δ h' ⟨rfl, ⟨ms, em⟩, v, hv, x, rfl⟩
      cases ms with
      | nil => cases em
      | cons c ms =>
        obtain ⟨rfl, rfl⟩ := List.cons.inj em
        have lg : v.natAbs.log2 + (48271 : Int).natAbs.log2 < 1000000 := by
          have : (48271 : Int).natAbs.log2 = 15 := by decide
          have := log_le hv.1 hv.2
          omega
        have b1 := Int.emod_nonneg (v * 48271 + c) (show (2147483629 : Int) ≠ 0 by omega)
        have b2 := Int.emod_lt_of_pos (v * 48271 + c) (show (0 : Int) < 2147483629 by omega)
        refine ⟨trivial, _, rfl, .inl ⟨[some (.rol (ns.map D.int)), some (.int ((v * 48271 + c) % 2147483629 + 1)), some (.int c)], h', ?_, rfl, ⟨ms, rfl⟩, (v * 48271 + c) % 2147483629 + 1, by omega, _, rfl⟩⟩
        simp [opMul_int lg]
  obtain ⟨v, hv, x, e⟩ := lp
  refine ⟨⟨ns, 0, 0, v⟩, ⟨Int.le_refl _, hv.1, hv.2⟩, rfl, ?_⟩
  rw [mFnN_eq (show [D.rol (ns.map D.int)].length = 1 from rfl)]
  unfold bStart
  have st : mStart 3 [D.rol (ns.map D.int)] = [some (.rol (ns.map D.int)), none, none] := rfl
  rw [st]
  simp [e]
  rfl
end
end MM
namespace MM
open PySem PySem.Spec PyProof.Rows L2
abbrev tx (l : List Nat) : Str := ⟨l.toArray⟩
theorem sgn_of (s : String) : (Str.ofString s).cps.toList = s.toList.map Char.toNat := by
  show (cpsOfBytes 0 0 s.toByteArray.data.toList).toArray.toList = _
  rw [cpsOfBytes_string]
theorem sgn_int (i : Int) : (Str.ofString (toString i)).cps.toList = if i < 0 then 45 :: TL.numL i.natAbs else TL.numL i.natAbs := by
  cases i with
  | ofNat n =>
    rw [if_neg (by simp)]
    exact TL.tl_num n
  | negSucc m =>
    rw [if_pos (Int.negSucc_lt_zero m), sgn_of]
    have e : toString (Int.negSucc m) = "-" ++ Nat.repr (m + 1) := rfl
    have e2 := TL.tl_num (m + 1)
    have e3 : TL.tl (Str.ofString (toString (((m + 1 : Nat)) : Int))) = (Nat.repr (m + 1)).toList.map Char.toNat := sgn_of _
    rw [e, String.toList_append, List.map_append, ← e3, e2]
    rfl
def At (n : Nat) (h k : MH) : Prop := n < h.length ∧ ∃ s : DS, s.Ok ∧ k = h.set n s.enc
section
variable {n : Nat} {h k k' g : MH} {many : Int}
theorem At.of {s : DS} (e : h[n]? = some s.enc) (ok : s.Ok) : At n h h := by
  obtain ⟨hn, e2⟩ := List.getElem?_eq_some_iff.mp e
  exact ⟨hn, s, ok, by rw [← e2, List.set_getElem_self]⟩
theorem At.len (a : At n h k) : k.length = h.length := by
  obtain ⟨_, s, _, rfl⟩ := a
  exact List.length_set ..
theorem At.lt (a : At n h k) : n < k.length := by rw [a.len]; exact a.1
theorem At.trans (a : At n h k) (b : At n k k') : At n h k' := by
  obtain ⟨l, s, _, rfl⟩ := a
  obtain ⟨_, s', ok, rfl⟩ := b
  exact ⟨l, s', ok, List.set_set ..⟩
theorem At.app (a : At n h k) (g : MH) : At n (h ++ g) (k ++ g) := by
  obtain ⟨l, s, ok, rfl⟩ := a
  exact ⟨by rw [List.length_append]; omega, s, ok, by rw [List.set_append_left _ _ l]⟩
theorem At.left (a : At n h k) : LeftOf h k := by
  obtain ⟨l, s, ok, rfl⟩ := a
  exact (LeftOf.refl h).set (.inl (s.enc_lows _))
theorem At.fn {a0 N : Nat} {ms : MSt} {ds : List D} {d : D} (e : ds.length = a0) (a : At n h k) (r : ms (mStart N ds) h = .ok (.ret d) k) (q : d.lows h.length = true) : mFn a0 N ms ds h = .ok d k :=
  mFn_ret (g := []) e r (by rw [List.append_nil]) a.len a.left q
end
theorem fRange1_eq {i : Int} {h : MH} (a : -(2 ^ 62) ≤ i) (b : i < 2 ^ 62) : fRange1 [.int i] h = .ok ⟨(List.range i.toNat).map fun (i : Nat) => .int i, fun _ => True⟩ h := if_pos ⟨a, b⟩
end MM
namespace MM
open PySem PySem.Spec PyProof.Rows L2
section
variable {h h1 h2 : MH} {δ δ2 : MS} {t : MT} {b : MSt} {r : SR}
@[simp] theorem isi_non_tuple : fIsi [.non, .ty "tuple"] h = .ok (.bl false) h := fIsi_of (n := "NoneType") rfl (by decide) (by decide)
@[simp] theorem isi_bl_tuple {k : Bool} : fIsi [(.bl k), .ty "tuple"] h = .ok (.bl false) h := fIsi_of (n := "bool") rfl (by decide) (by decide)
@[simp] theorem isi_int_tuple {i : Int} : fIsi [(.int i), .ty "tuple"] h = .ok (.bl false) h := fIsi_of (n := "int") rfl (by decide) (by decide)
@[simp] theorem isi_str_tuple {s : Str} : fIsi [(.str s), .ty "tuple"] h = .ok (.bl false) h := fIsi_of (n := "str") rfl (by decide) (by decide)
@[simp] theorem isi_tup_tuple {ds : List D} : fIsi [(.tup ds), .ty "tuple"] h = .ok (.bl true) h := fIsi_of (n := "tuple") rfl (by decide) (by decide)
@[simp] theorem isi_rol_tuple {ds : List D} : fIsi [(.rol ds), .ty "tuple"] h = .ok (.bl false) h := fIsi_of (n := "list") rfl (by decide) (by decide)
@[simp] theorem isi_non_str : fIsi [.non, .ty "str"] h = .ok (.bl false) h := fIsi_of (n := "NoneType") rfl (by decide) (by decide)
@[simp] theorem isi_bl_str {k : Bool} : fIsi [(.bl k), .ty "str"] h = .ok (.bl false) h := fIsi_of (n := "bool") rfl (by decide) (by decide)
@[simp] theorem isi_int_str {i : Int} : fIsi [(.int i), .ty "str"] h = .ok (.bl false) h := fIsi_of (n := "int") rfl (by decide) (by decide)
@[simp] theorem isi_str_str {s : Str} : fIsi [(.str s), .ty "str"] h = .ok (.bl true) h := fIsi_of (n := "str") rfl (by decide) (by decide)
@[simp] theorem isi_tup_str {ds : List D} : fIsi [(.tup ds), .ty "str"] h = .ok (.bl false) h := fIsi_of (n := "tuple") rfl (by decide) (by decide)
@[simp] theorem isi_rol_str {ds : List D} : fIsi [(.rol ds), .ty "str"] h = .ok (.bl false) h := fIsi_of (n := "list") rfl (by decide) (by decide)
@[simp] theorem isi_non_int : fIsi [.non, .ty "int"] h = .ok (.bl false) h := fIsi_of (n := "NoneType") rfl (by decide) (by decide)
@[simp] theorem isi_bl_int {k : Bool} : fIsi [(.bl k), .ty "int"] h = .ok (.bl true) h := fIsi_of (n := "bool") rfl (by decide) (by decide)
@[simp] theorem isi_int_int {i : Int} : fIsi [(.int i), .ty "int"] h = .ok (.bl true) h := fIsi_of (n := "int") rfl (by decide) (by decide)
@[simp] theorem isi_str_int {s : Str} : fIsi [(.str s), .ty "int"] h = .ok (.bl false) h := fIsi_of (n := "str") rfl (by decide) (by decide)
@[simp] theorem isi_tup_int {ds : List D} : fIsi [(.tup ds), .ty "int"] h = .ok (.bl false) h := fIsi_of (n := "tuple") rfl (by decide) (by decide)
@[simp] theorem isi_rol_int {ds : List D} : fIsi [(.rol ds), .ty "int"] h = .ok (.bl false) h := fIsi_of (n := "list") rfl (by decide) (by decide)
@[simp] theorem isi_non_bool : fIsi [.non, .ty "bool"] h = .ok (.bl false) h := fIsi_of (n := "NoneType") rfl (by decide) (by decide)
@[simp] theorem isi_bl_bool {k : Bool} : fIsi [(.bl k), .ty "bool"] h = .ok (.bl true) h := fIsi_of (n := "bool") rfl (by decide) (by decide)
@[simp] theorem isi_int_bool {i : Int} : fIsi [(.int i), .ty "bool"] h = .ok (.bl false) h := fIsi_of (n := "int") rfl (by decide) (by decide)
@[simp] theorem isi_str_bool {s : Str} : fIsi [(.str s), .ty "bool"] h = .ok (.bl false) h := fIsi_of (n := "str") rfl (by decide) (by decide)
@[simp] theorem isi_tup_bool {ds : List D} : fIsi [(.tup ds), .ty "bool"] h = .ok (.bl false) h := fIsi_of (n := "tuple") rfl (by decide) (by decide)
@[simp] theorem isi_rol_bool {ds : List D} : fIsi [(.rol ds), .ty "bool"] h = .ok (.bl false) h := fIsi_of (n := "list") rfl (by decide) (by decide)
@[simp] theorem isi_non_list : fIsi [.non, .ty "list"] h = .ok (.bl false) h := fIsi_of (n := "NoneType") rfl (by decide) (by decide)
@[simp] theorem isi_bl_list {k : Bool} : fIsi [(.bl k), .ty "list"] h = .ok (.bl false) h := fIsi_of (n := "bool") rfl (by decide) (by decide)
@[simp] theorem isi_int_list {i : Int} : fIsi [(.int i), .ty "list"] h = .ok (.bl false) h := fIsi_of (n := "int") rfl (by decide) (by decide)
@[simp] theorem isi_str_list {s : Str} : fIsi [(.str s), .ty "list"] h = .ok (.bl false) h := fIsi_of (n := "str") rfl (by decide) (by decide)
@[simp] theorem isi_tup_list {ds : List D} : fIsi [(.tup ds), .ty "list"] h = .ok (.bl false) h := fIsi_of (n := "tuple") rfl (by decide) (by decide)
@[simp] theorem isi_rol_list {ds : List D} : fIsi [(.rol ds), .ty "list"] h = .ok (.bl true) h := fIsi_of (n := "list") rfl (by decide) (by decide)
@[simp] theorem isi_non_dict : fIsi [.non, .ty "dict"] h = .ok (.bl false) h := fIsi_of (n := "NoneType") rfl (by decide) (by decide)
@[simp] theorem isi_bl_dict {k : Bool} : fIsi [(.bl k), .ty "dict"] h = .ok (.bl false) h := fIsi_of (n := "bool") rfl (by decide) (by decide)
@[simp] theorem isi_int_dict {i : Int} : fIsi [(.int i), .ty "dict"] h = .ok (.bl false) h := fIsi_of (n := "int") rfl (by decide) (by decide)
@[simp] theorem isi_str_dict {s : Str} : fIsi [(.str s), .ty "dict"] h = .ok (.bl false) h := fIsi_of (n := "str") rfl (by decide) (by decide)
@[simp] theorem isi_tup_dict {ds : List D} : fIsi [(.tup ds), .ty "dict"] h = .ok (.bl false) h := fIsi_of (n := "tuple") rfl (by decide) (by decide)
@[simp] theorem isi_rol_dict {ds : List D} : fIsi [(.rol ds), .ty "dict"] h = .ok (.bl false) h := fIsi_of (n := "list") rfl (by decide) (by decide)
@[simp] theorem mgTup_tup {n : Nat} {gs : MGs} {ds : List D} : mgTup n gs (.tup ds) δ = if ds.length = n then gs ds δ else none := rfl
@[simp] theorem mgCons_cons {g : MG} {gs : MGs} {d : D} {ds : List D} : mgCons g gs (d :: ds) δ = (g d δ).bind fun δ' => gs ds δ' := rfl
@[simp] theorem mgNil_nil : mgNil [] δ = some δ := rfl
end
end MM
namespace MM
open PySem PySem.Spec PyProof.Rows L2
end MM
namespace MM
open PySem PySem.Spec PyProof.Rows L2
theorem _root_.L2.PS.or {X : Cx} {e : Stmt} {t t' : TS} (p : PS X e t) (p' : PS X e t') : PS X e (fun D σ H => t D σ H ∨ t' D σ H) := ⟨fun pins s σ H Q I q => q.elim (p.run pins s σ H Q I) (p'.run pins s σ H Q I)⟩
theorem _root_.L2.PE.or {X : Cx} {e : Expr} {t t' : TE} (p : PE X e t) (p' : PE X e t') : PE X e (fun σ H Q => t σ H Q ∨ t' σ H Q) := ⟨fun pins s σ H Q I q => q.elim (p.run pins s σ H Q I) (p'.run pins s σ H Q I)⟩
section
variable {K : PySem.W.Frag} {L L' : TL} {H H' H2 : Hp} {h h' : MH} {a p : Addr}
def RdM (H H2 : Hp) : Prop := ∀ b w, (∀ o u, w ≠ .frz o u) → Rd H b w → Rd H2 b w
mutual
theorem Rep.rdm (m : RdM H H2) : ∀ {d : D} {v : V}, Rep K L H d v → Rep K L H2 d v
  | .non, _, r => by unfold Rep at r ⊢; exact r
  | .bl _, _, r => by unfold Rep at r ⊢; exact r
  | .int _, _, r => by unfold Rep at r ⊢; exact r
  | .str _, _, r => by unfold Rep at r ⊢; exact r
  | .obj _, _, r => by unfold Rep at r ⊢; exact r
  | .ty _, _, r => by unfold Rep at r ⊢; exact r
  | .kon _, _, r => by unfold Rep at r ⊢; exact r
  | .ref _, _, r => by unfold Rep at r ⊢; exact r
  | .rdc ks ds, _, r => by
    unfold Rep at r ⊢
    obtain ⟨a, xs, e1, s, n, l, q⟩ := r
    exact ⟨a, xs, e1, m _ _ (by intro _ _ z; cases z) s, n, l, RepL.rdm m q⟩
  | .xo a d fl ds, _, r => by
    unfold Rep at r ⊢
    obtain ⟨e1, xs, s, n, l, q⟩ := r
    exact ⟨e1, xs, m _ _ (by intro _ _ z; cases z) s, n, l, RepL.rdm m q⟩
  | .tup ds, _, r => by
    unfold Rep at r ⊢
    obtain ⟨a, xs, e1, s, q⟩ := r
    refine ⟨a, xs, e1, ?_, RepL.rdm m q⟩
    rcases s with ⟨s, n⟩ | s
    · exact .inl ⟨m _ _ (by intro _ _ z; cases z) s, n⟩
    · exact .inr s
  | .rol ds, _, r => by
    unfold Rep at r ⊢
    obtain ⟨a, xs, e1, s, q⟩ := r
    refine ⟨a, xs, e1, ?_, RepL.rdm m q⟩
    rcases s with ⟨s, n⟩ | s
    · exact .inl ⟨m _ _ (by intro _ _ z; cases z) s, n⟩
    · exact .inr s
theorem RepL.rdm (m : RdM H H2) : ∀ {ds : List D} {vs : List V}, RepL K L H ds vs → RepL K L H2 ds vs
  | [], _, r => by rw [r.nil_inv]; exact .nil
  | d :: ds, _, r => by
    obtain ⟨v, vs, rfl, q, w⟩ := r.cons_inv
    exact .cons (Rep.rdm m q) (RepL.rdm m w)
end
theorem RepK.rdm (m : RdM H H2) : ∀ {ds : List (Key × D)} {vs}, RepK K L H ds vs → RepK K L H2 ds vs
  | [], _, r => r
  | d :: ds, _, ⟨v, vs, e1, q, w⟩ => ⟨v, vs, e1, q.rdm m, RepK.rdm m w⟩
theorem RepF.rdm (m : RdM H H2) : ∀ {ds : List (Str × D)} {vs}, RepF K L H ds vs → RepF K L H2 ds vs
  | [], _, r => r
  | d :: ds, _, ⟨v, vs, e1, q, w⟩ => ⟨v, vs, e1, q.rdm m, RepF.rdm m w⟩
theorem RepS.rdm {δ : MS} {σ : L2.St} (m : RdM H H2) (r : RepS K L H δ σ) : RepS K L H2 δ σ := ⟨r.len, fun i d e => let ⟨v, e1, q⟩ := r.at' i d e; ⟨v, e1, q.rdm m⟩⟩
theorem OAt.rdm (m : RdM H H2) {l : Option (Option Addr)} {o : MO} (same : ∀ a, l = some (some a) → H2 a = H a) (q : OAt K L H l o) : OAt K L H2 l o := by
  cases o with
  | dead => exact q
  | lst ds => obtain ⟨b, xs, e1, e2, w⟩ := q; exact ⟨b, xs, e1, (same b e1).trans e2, w.rdm m⟩
  | dic ds => obtain ⟨b, xs, e1, e2, w⟩ := q; exact ⟨b, xs, e1, (same b e1).trans e2, w.rdm m⟩
  | ldc ds => obtain ⟨b, o, xs, e1, e2, w⟩ := q; exact ⟨b, o, xs, e1, (same b e1).trans e2, w.rdm m⟩
  | ins C ds => obtain ⟨b, dx, Ca, xs, e1, e2, w, hC⟩ := q; exact ⟨b, dx, Ca, xs, e1, (same b e1).trans e2, w.rdm m, hC⟩
theorem Rel.put (r : Rel K L H h) {n : Nat} {o : HO} {mo : MO} (en : L[n]? = some (some a)) (m : RdM H (upd H a o)) (q : OAt K L (upd H a o) (some (some a)) mo) : Rel K L (upd H a o) (h.set n mo) := by
  refine ⟨by rw [List.length_set]; exact r.len, fun k u e => ?_, r.inj⟩
  by_cases hk : n = k
  · subst hk
    rw [List.getElem?_set_self (r.ltL en)] at e
    cases e
    rw [en]; exact q
  · rw [List.getElem?_set_ne hk] at e
    exact (r.at' k u e).rdm m fun b eb => upd_ne fun z => hk (r.inj n k a en (by rw [← z]; exact eb))
theorem Rel.ldc {n : Nat} {ds} (r : Rel K L H h) (e : h[n]? = some (.ldc ds)) : ∃ a o xs, L[n]? = some (some a) ∧ H a = some (.frz o (.dK xs)) ∧ RepK K L H ds xs := r.at' n _ e
end
theorem RepK.get {K L H} : ∀ {ds : List (Key × D)} {vs} {i : Nat} {p : Key × V}, RepK K L H ds vs → vs[i]? = some p → ∃ d, ds[i]? = some (p.1, d) ∧ Rep K L H d p.2
  | [], _, _, _, r, e => by cases r; simp at e
  | d :: ds, _, 0, _, ⟨v, vs, ev, q, w⟩, e => by
    subst ev
    cases e
    exact ⟨d.2, rfl, q⟩
  | d :: ds, _, i + 1, _, ⟨v, vs, ev, q, w⟩, e => by
    subst ev
    exact RepK.get (i := i) w (by simpa using e)
section
variable {X : Cx} {W : WX} {tg a : Expr} {ma : ME} {apos cpos : Pos}
end
theorem rep_newD {K L H} {h : MH} {kvs} {ws : List (Key × V)} {p} (r : Rel K L H h) (hp : H p = none) (w : RepK K L H kvs ws) : Ext L H (L ++ [some p]) (upd H p (.dK ws)) ∧ Rel K (L ++ [some p]) (upd H p (.dK ws)) (h ++ [.dic kvs]) ∧ Rep K (L ++ [some p]) (upd H p (.dK ws)) (.ref h.length) (.ref p) := by
  obtain ⟨x, r'⟩ := r.alloc (m := .dic kvs) (o := .dK ws) hp ⟨p, ws, rfl, upd_same, w.mono (ext_alloc hp)⟩
  refine ⟨x, r', ?_⟩
  unfold Rep
  exact ⟨p, rfl, .inl (by rw [getElem?_snoc, if_pos r.len.symm])⟩
def mDicN : ME := fun _ h => .ok (.ref h.length) (h ++ [.dic []])
theorem pem_dicN {X : Cx} {W : WX} {pos : Pos} : PEM X W (.Dict [] [] pos) mDicN :=
  PE.imp pe_dnewK fun σ H Q ⟨L, h, δ, r, s, a⟩ p hp => ans_of (rep_newD r hp (show RepK X.K L H [] [] from rfl)) a
def putD (kvs : List (Key × D)) (k : Key) (d : D) : List (Key × D) := if (kvs.any fun p => decide (p.1 = k)) = true then kvs.map fun p => if p.1 = k then (p.1, d) else p else kvs ++ [(k, d)]
theorem repK_put {K L H} {k : Key} {d : D} {v : V} (q : Rep K L H d v) {kvs : List (Key × D)} {ws : List (Key × V)} (w : RepK K L H kvs ws) : RepK K L H (putD kvs k d) (putK ws k v) := by
  have any : ∀ {kvs : List (Key × D)} {ws : List (Key × V)}, RepK K L H kvs ws → (kvs.any fun p => decide (p.1 = k)) = ws.any fun p => decide (p.1 = k) := fun {kvs} => by
    induction kvs with
    | nil => intro ws w; cases w; rfl
    | cons p r ih => intro ws ⟨u, us, e, q, w⟩; subst e; rw [List.any_cons, List.any_cons, ih w]
  have mp : ∀ {kvs : List (Key × D)} {ws : List (Key × V)}, RepK K L H kvs ws → RepK K L H (kvs.map fun p => if p.1 = k then (p.1, d) else p) (ws.map fun p => if p.1 = k then (p.1, v) else p) := fun {kvs} => by
    induction kvs with
    | nil => intro ws w; cases w; exact rfl
    | cons p r ih =>
      intro ws ⟨u, us, e, q', w⟩; subst e
      by_cases hk : p.1 = k
      · refine ⟨v, _, ?_, ?_, ih w⟩
        · simp [hk]
        · simp [hk]; exact q
      · refine ⟨u, _, ?_, ?_, ih w⟩
        · simp [hk]
        · simp [hk]; exact q'
  have app : ∀ {kvs : List (Key × D)} {ws : List (Key × V)}, RepK K L H kvs ws → RepK K L H (kvs ++ [(k, d)]) (ws ++ [(k, v)]) := fun {kvs} => by
    induction kvs with
    | nil => intro ws w; cases w; exact ⟨v, [], rfl, q, rfl⟩
    | cons p r ih => intro ws ⟨u, us, e, q', w⟩; subst e; exact ⟨u, _, rfl, q', ih w⟩
  unfold putD putK
  rw [any w]
  split
  · exact mp w
  · exact app w
def setG2 (o i d : D) (h : MH) : Option MH := match o with
  | .ref n => (match h[n]? with
    | some (.dic kvs) => (keyD i).bind fun k => if kvs.length < 16777216 then some (h.set n (.dic (putD kvs k d))) else none
    | _ => setG o i d h)
  | _ => none
def mSetIx2 (m mo mi : ME) : MSt := fun δ h => (m δ h).st δ fun d h1 => (mo δ h1).st δ fun o h2 => (mi δ h2).st δ fun i h3 => match setG2 o i d h3 with
  | some h4 => .ok (.next δ) h4
  | none => .stuck
theorem _root_.L2.PSet.or {X : Cx} {t t' : TSet} (p : PSet X t) (p' : PSet X t') : PSet X (fun o i v H Q => t o i v H Q ∨ t' o i v H Q) :=
  fun pins s σ H o i v ov iv u Q I ro ri rv q => q.elim (p pins s σ H o i v ov iv u Q I ro ri rv) (p' pins s σ H o i v ov iv u Q I ro ri rv)
theorem setG2_ok {K : PySem.W.Frag} {L H} {h h' : MH} {o i d : D} {vo vi v : V} {Q : Hp → Prop} (r : Rel K L H h) (po : Rep K L H o vo) (pi : Rep K L H i vi) (p : Rep K L H d v) (e : setG2 o i d h = some h')
    (k : ∀ H', Ext L H L H' → Rel K L H' h' → Q H') : rSetL vo vi v H Q ∨ rSetD vo vi v H Q := by
  unfold setG2 at e
  split at e
  · rename_i n
    split at e
    · rename_i kvs en
      obtain ⟨y, e1, e2⟩ := Option.bind_eq_some_iff.mp e
      split at e2
      · rename_i hz
        cases e2
        obtain ⟨a, ws, z1, z2, w⟩ := r.dic en
        have nf : ∀ o u, H a ≠ some (.frz o u) := fun o u z => by rw [z2] at z; cases z
        obtain ⟨x1, r1⟩ := r.write (o := .dK (putK ws y v)) (m := .dic (putD kvs y d)) z1 nf ⟨a, _, rfl, upd_same, (repK_put p w).mono (ext_write z1 nf)⟩
        exact .inr ⟨a, _, po.ref z1, .inl ⟨ws, y, z2, keyD_ok pi e1, by rw [sizeLine_eq, ← w.length]; exact hz, rfl⟩, k _ x1 r1⟩
      · cases e2
    · exact .inl (setG_ok r po pi p e k)
  · cases e
section
variable {X : Cx} {W : WX} {pos : Pos} {e o i : Expr} {me mo mi : ME}
theorem psm_setIx2 {tpos : Pos} (hu : X.A.units + 64 < cLine) (he : PEM X W e me) (ho : PEM X W o mo) (hi : PEM X W i mi)
    (ha : ∀ v, assign (.Subscript o i tpos) X.env v = (do
      let ov ← holding [v] (eval o X.env)
      let iv ← holding [v, ov] (eval i X.env)
      standAt tpos
      holding [v, ov, iv] (setItem ov iv v)
      release [v, ov, iv] []) := by intro _; rfl)
    (hs : swapsWithSole [.Subscript o i tpos] e pos.line X.env = pure false := by rfl) (hw : swappedStores [.Subscript o i tpos] e X.env = pure none := by rfl) (h1 : (assignEach [.Subscript o i tpos] X.env).map (·.2) = [assign (.Subscript o i tpos) X.env] := by rfl) :
    PSM X W (.Assign [.Subscript o i tpos] e pos) (mSetIx2 me mo mi) :=
  PS.imp (ps_asg he (pg_sub ho hi (set_list.or (set_dict (by omega))) ha) hs hw h1) fun D σ H ⟨L, h, δ, r, s, a⟩ => ⟨L, h, δ, r, s, Ans.imp (AnsS.bind (rp := Rep X.K) s a) fun v H1 ⟨L1, h1, d, x1, r1, p1, s1, a1⟩ =>
    ⟨L1, h1, δ, r1, s1, Ans.imp (AnsS.bind (rp := Rep X.K) s1 a1) fun vo H2 ⟨L2, h2, d2, x2, r2, p2, s2, a2⟩ => ⟨L2, h2, δ, r2, s2, Ans.imp (AnsS.bind (rp := Rep X.K) s2 a2) fun vi H3 ⟨L3, h3, d3, x3, r3, p3, s3, a3⟩ => by
      cases eg : setG2 d2 d3 d h3 with
      | none => rw [eg] at a3; exact a3.elim
      | some h4 =>
        simp only [eg] at a3
        exact setG2_ok r3 (p2.mono x3) p3 (p1.mono (x2.trans x3)) eg fun H' x r' => (a3.mono x).nx r' (s3.mono x)⟩⟩⟩
end
def dicR (d : D) (h : MH) : Option (List (Key × D)) := match d with
  | .rdc ks ds => some (ks.zip ds)
  | .ref n => (match h[n]? with
    | some (.dic kvs) => some kvs
    | some (.ldc kvs) => some kvs
    | _ => none)
  | _ => none
theorem dicR_ok {K : PySem.W.Frag} {L H} {h : MH} {d : D} {x : V} {kvs} (r : Rel K L H h) (p : Rep K L H d x) (e : dicR d h = some kvs) : ∃ a ws, x = .ref a ∧ Rd H a (.dK ws) ∧ RepK K L H kvs ws := by
  unfold dicR at e
  split at e
  · cases e
    unfold Rep at p
    obtain ⟨a, xs, rfl, s, n, l, w⟩ := p
    exact ⟨a, _, rfl, s, repK_zip w⟩
  · split at e
    · rename_i z
      cases e
      obtain ⟨a, ws, z1, z2, w⟩ := r.dic z
      exact ⟨a, ws, p.ref z1, .inl z2, w⟩
    · rename_i z
      cases e
      obtain ⟨a, o, ws, z1, z2, w⟩ := r.ldc z
      exact ⟨a, ws, p.ref z1, .inr ⟨o, z2⟩, w⟩
    · cases e
  · cases e
def hasD (kvs : List (Key × D)) (k : Key) : Bool := (valD kvs k).isSome
theorem repO_some {K L H o w} (r : RepO K L H o w) : o.isSome = w.isSome := by
  cases o with
  | some d => obtain ⟨v, rfl, _⟩ := r; rfl
  | none => cases r; rfl
def inG2 (x y : D) (h : MH) : Option Bool := match dicR y h with
  | some kvs => (keyD x).map fun k => hasD kvs k
  | none => inG x y h
def opIn2 (x y : D) (h : MH) : R D := match inG2 x y h with
  | some b => .ok (.bl b) h
  | none => .stuck
def opNin2 (x y : D) (h : MH) : R D := match inG2 x y h with
  | some b => .ok (.bl (!b)) h
  | none => .stuck
def rInD (no : Bool) : R2 := fun x y H Q => ∃ a o, y = .ref a ∧ DGet H a x o ∧ Q (.bl (no != o.isSome)) H
theorem op_inD {X : Cx} (hu : X.A.units + 64 < cLine) : OpR X (compareOp .In) (rInD false) := by
  intro pins s σ H x y v u Q I rx ry h
  obtain ⟨a, o, rfl, g, q⟩ := h
  cases (show u = Value.ref a from ry)
  exact d_in (by omega) I g rx fun s' I' => ⟨.bl o.isSome, H, I', rfl, by simpa using q⟩
theorem op_ninD {X : Cx} (hu : X.A.units + 64 < cLine) : OpR X (compareOp .NotIn) (rInD true) := by
  intro pins s σ H x y v u Q I rx ry h
  obtain ⟨a, o, rfl, g, q⟩ := h
  cases (show u = Value.ref a from ry)
  exact d_notIn (by omega) I g rx fun s' I' => ⟨.bl (!o.isSome), H, I', rfl, by simpa using q⟩
def rIn3 (K : PySem.W.Frag) : R2 := fun x y H Q => rInD false x y H Q ∨ rIn2 K x y H Q
def rNin3 (K : PySem.W.Frag) : R2 := fun x y H Q => rInD true x y H Q ∨ rNin2 K x y H Q
theorem op_in3 {X : Cx} (hu : X.A.units + 64 < cLine) : OpR X (compareOp .In) (rIn3 X.K) := (op_inD hu).or op_in2
theorem op_nin3 {X : Cx} (hu : X.A.units + 64 < cLine) : OpR X (compareOp .NotIn) (rNin3 X.K) := (op_ninD hu).or op_nin2
theorem inG2_ok {K : PySem.W.Frag} {L H} {h : MH} {dx dy x y b} (r : Rel K L H h) (px : Rep K L H dx x) (py : Rep K L H dy y) (e : inG2 dx dy h = some b) : (∃ a o, y = .ref a ∧ DGet H a x o ∧ o.isSome = b) ∨ inG dx dy h = some b := by
  unfold inG2 at e
  split at e
  · rename_i kvs ed
    obtain ⟨k, e1, rfl⟩ := Option.map_eq_some_iff.mp e
    obtain ⟨a, ws, rfl, rd, w⟩ := dicR_ok r py ed
    exact .inl ⟨a, _, rfl, .inl ⟨ws, k, rd, keyD_ok px e1, rfl⟩, (repO_some (repO_K w)).symm⟩
  · exact .inr e
theorem opIn2_ok {K : PySem.W.Frag} : OpM K (rIn3 K) opIn2 := by
  intro L H h dx dy x y Q E r px py a
  unfold opIn2 at a
  split at a
  · rename_i b e
    rcases inG2_ok r px py e with ⟨p, o, rfl, g, eb⟩ | e
    · exact .inl ⟨p, o, rfl, g, by rw [eb]; simpa using ans_okE r rep_bl a⟩
    · exact .inr (opIn_ok L H h dx dy x y Q E r px py (by unfold opIn; rw [e]; exact a))
  · exact a.elim
theorem opNin2_ok {K : PySem.W.Frag} : OpM K (rNin3 K) opNin2 := by
  intro L H h dx dy x y Q E r px py a
  unfold opNin2 at a
  split at a
  · rename_i b e
    rcases inG2_ok r px py e with ⟨p, o, rfl, g, eb⟩ | e
    · exact .inl ⟨p, o, rfl, g, by rw [eb]; simpa using ans_okE r rep_bl a⟩
    · exact .inr (opNin_ok L H h dx dy x y Q E r px py (by unfold opNin; rw [e]; exact a))
  · exact a.elim
end MM
namespace MM
open PySem PySem.Spec PyProof.Rows L2
abbrev XP := Str → List (Str × D) → MH → Prop
abbrev XPS := Str → List (Str × D) → MS → MH → Prop
def NoX : XP := fun _ _ _ => False
def XP.s (E : XP) : XPS := fun c fs _ h => E c fs h
structure Tg {α : Type} (P : α → MH → Prop) (E : XP) : Type where
structure TgS (P : Fl → MH → Prop) (E : XPS) : Type where
def Tm {α : Type} (r : R α) (P : α → MH → Prop) (E : XP) (_u : Tg P E := ⟨⟩) : Prop := match r with
  | .ok a h => P a h
  | .exc c fs h => E c fs h
  | .stuck => False
def TmS (r : SR) (P : Fl → MH → Prop) (E : XPS) (_u : TgS P E := ⟨⟩) : Prop := match r with
  | .ok a h => P a h
  | .exc c fs δ h => E c fs δ h
  | .stuck => False
section
variable {α β : Type} {r : R α} {f : α → MH → R β} {P : α → MH → Prop} {Q : β → MH → Prop} {E : XP} {PS' : Fl → MH → Prop} {ES : XPS} {δ : MS} {h : MH}
@[simp] theorem Tm_ok {a : α} : Tm (.ok a h) P E ↔ P a h := Iff.rfl
@[simp] theorem Tm_exc {c fs} : Tm (.exc c fs h : R α) P E ↔ E c fs h := Iff.rfl
@[simp] theorem Tm_stuck : Tm (.stuck : R α) P E ↔ False := Iff.rfl
@[simp] theorem Tm_bnd : Tm (r.bnd f) Q E ↔ Tm r (fun a h => Tm (f a h) Q E) E := by cases r <;> rfl
@[simp] theorem TmS_ok {a : Fl} : TmS (.ok a h) PS' ES ↔ PS' a h := Iff.rfl
@[simp] theorem TmS_exc {c fs} : TmS (.exc c fs δ h) PS' ES ↔ ES c fs δ h := Iff.rfl
@[simp] theorem TmS_stuck : TmS (.stuck) PS' ES ↔ False := Iff.rfl
@[simp] theorem TmS_st {k : α → MH → SR} : TmS (r.st δ k) PS' ES ↔ Tm r (fun a h => TmS (k a h) PS' ES) (fun c fs h => ES c fs δ h) := by cases r <;> rfl
def SeqP (k : MSt) (P : Fl → MH → Prop) (E : XPS) : Fl → MH → Prop := fun f h => match f with
  | .next δ => TmS (k δ h) P E
  | f => P f h
@[simp] theorem SeqP_next {k : MSt} : SeqP k PS' ES (.next δ) h ↔ TmS (k δ h) PS' ES := Iff.rfl
@[simp] theorem SeqP_ret {k : MSt} {d : D} : SeqP k PS' ES (.ret d) h ↔ PS' (.ret d) h := Iff.rfl
@[simp] theorem SeqP_brk {k : MSt} : SeqP k PS' ES (.brk δ) h ↔ PS' (.brk δ) h := Iff.rfl
@[simp] theorem SeqP_cont {k : MSt} : SeqP k PS' ES (.cont δ) h ↔ PS' (.cont δ) h := Iff.rfl
@[simp] theorem TmS_seq {s : SR} {k : MSt} : TmS (s.seq k) PS' ES ↔ TmS s (SeqP k PS' ES) ES := by
  cases s with
  | ok f h => cases f <;> rfl
  | exc _ _ _ _ => rfl
  | stuck => rfl
theorem Tm.imp {P' : α → MH → Prop} (t : Tm r P E) (g : ∀ a h, P a h → P' a h) : Tm r P' E := by
  cases r with
  | ok a h => exact g _ _ t
  | exc _ _ _ => exact t
  | stuck => exact t
theorem TmS.imp {s : SR} {P' : Fl → MH → Prop} (t : TmS s PS' ES) (g : ∀ a h, PS' a h → P' a h) : TmS s P' ES := by
  cases s with
  | ok a h => exact g _ _ t
  | exc _ _ _ _ => exact t
  | stuck => exact t
theorem Tm.ex (t : Tm r P NoX) : ∃ a h, r = .ok a h ∧ P a h := by
  cases r with
  | ok a h => exact ⟨a, h, rfl, t⟩
  | exc _ _ _ => exact t.elim
  | stuck => exact t.elim
theorem Tm.of {a : α} {h' : MH} (e : r = .ok a h') (p : P a h') : Tm r P E := by rw [e]; exact p
@[simp] theorem Tm_ite {c : Prop} [Decidable c] {a b : R α} : Tm (if c then a else b) P E ↔ if c then Tm a P E else Tm b P E := by split <;> rfl
@[simp] theorem TmS_ite {c : Prop} [Decidable c] {a b : SR} : TmS (if c then a else b) PS' ES ↔ if c then TmS a PS' ES else TmS b PS' ES := by split <;> rfl
theorem TmS_for {g : MH → Prop} {tgt : MG} {body : MSt} (I : List D → MS → MH → Prop) (hg : ∀ ds δ h, I ds δ h → g h)
    (step : ∀ x r δ h, I (x :: r) δ h → ∃ δ1, tgt x δ = some δ1 ∧ TmS (body δ1 h) (fun f h2 => match f with | .next δ2 => I r δ2 h2 | .cont δ2 => I r δ2 h2 | .brk δ2 => PS' (.next δ2) h2 | .ret d => PS' (.ret d) h2) ES)
    (fin : ∀ δ h, I [] δ h → PS' (.next δ) h) {ds : List D} {δ : MS} {h : MH} (i : I ds δ h) : TmS (forM g tgt body ds δ h) PS' ES := by
  refine forM_ind (Post := fun r => TmS r PS' ES) I (fun δ h i => ⟨hg _ _ _ i, fin _ _ i⟩) (fun x r δ h i => ⟨hg _ _ _ i, ?_⟩) i
  obtain ⟨δ1, e1, t⟩ := step x r δ h i
  refine ⟨δ1, e1, ?_⟩
  generalize body δ1 h = s at t
  cases s with
  | stuck => exact t.elim
  | exc c fs δ' h' => exact .inr (.inr (.inr (.inr ⟨c, fs, δ', h', rfl, t⟩)))
  | ok f h' =>
    cases f with
    | next δ2 => exact .inl ⟨δ2, h', rfl, t⟩
    | cont δ2 => exact .inr (.inl ⟨δ2, h', rfl, t⟩)
    | brk δ2 => exact .inr (.inr (.inl ⟨δ2, h', rfl, t⟩))
    | ret d => exact .inr (.inr (.inr (.inl ⟨d, h', rfl, t⟩)))
def Nx (I : MS → MH → Prop) : Fl → MH → Prop := fun f h => ∃ δ, f = .next δ ∧ I δ h
@[simp] theorem Nx_next {I : MS → MH → Prop} : Nx I (.next δ) h ↔ I δ h := ⟨fun ⟨_, e, i⟩ => by cases e; exact i, fun i => ⟨_, rfl, i⟩⟩
theorem TmS_forN {g : MH → Prop} {tgt : MG} {body : MSt} (I : List D → MS → MH → Prop) (hg : ∀ ds δ h, I ds δ h → g h)
    (step : ∀ x r δ h, I (x :: r) δ h → ∃ δ1, tgt x δ = some δ1 ∧ TmS (body δ1 h) (Nx (I r)) ES)
    (fin : ∀ δ h, I [] δ h → PS' (.next δ) h) {ds : List D} {δ : MS} {h : MH} (i : I ds δ h) : TmS (forM g tgt body ds δ h) PS' ES :=
  TmS_for I hg (fun x r δ h i => let ⟨δ1, e1, t⟩ := step x r δ h i; ⟨δ1, e1, t.imp fun f h2 ⟨δ2, e, q⟩ => by subst e; exact q⟩) fin i
end
end MM
namespace MM
open PySem PySem.Spec PyProof.Rows L2
mutual
def D.eok : Nat → D → Bool
  | _, .non => true
  | _, .bl _ => true
  | _, .int _ => true
  | _, .str s => PyData.strOk s
  | 0, .tup _ => false
  | n + 1, .tup ds => eokL n ds
  | 0, .rol _ => false
  | n + 1, .rol ds => eokL n ds
  | _, _ => false
def eokL : Nat → List D → Bool
  | _, [] => true
  | n, d :: ds => d.eok n && eokL n ds
end
mutual
theorem toPy_ok : ∀ {d : D} {n : Nat}, d.eok n = true → ∃ p, toPy d = some p ∧ p.canLay0 = true ∧ p.depth ≤ n
  | .non, _, _ => ⟨_, rfl, rfl, Nat.zero_le _⟩
  | .bl _, _, _ => ⟨_, rfl, rfl, Nat.zero_le _⟩
  | .int _, _, _ => ⟨_, rfl, rfl, Nat.zero_le _⟩
  | .str s, n, h => ⟨_, rfl, by unfold D.eok at h; simpa [PyData.canLay0] using h, Nat.zero_le _⟩
  | .tup ds, 0, h => by unfold D.eok at h; cases h
  | .tup ds, n + 1, h => by
    unfold D.eok at h
    obtain ⟨ps, e1, e2, e3⟩ := toPyL_ok h
    refine ⟨.tuple ps, by unfold toPy; rw [e1]; rfl, by simpa [PyData.canLay0] using e2, ?_⟩
    show PyData.depthAll ps + 1 ≤ _
    omega
  | .rol ds, 0, h => by unfold D.eok at h; cases h
  | .rol ds, n + 1, h => by
    unfold D.eok at h
    obtain ⟨ps, e1, e2, e3⟩ := toPyL_ok h
    refine ⟨.list ps, by unfold toPy; rw [e1]; rfl, by simpa [PyData.canLay0] using e2, ?_⟩
    show PyData.depthAll ps + 1 ≤ _
    omega
  | .ref _, _, h => by unfold D.eok at h; cases h
  | .obj _, _, h => by unfold D.eok at h; cases h
  | .ty _, _, h => by unfold D.eok at h; cases h
  | .kon _, _, h => by unfold D.eok at h; cases h
  | .rdc _ _, _, h => by unfold D.eok at h; cases h
  | .xo _ _ _ _, _, h => by unfold D.eok at h; cases h
theorem toPyL_ok : ∀ {ds : List D} {n : Nat}, eokL n ds = true → ∃ ps, toPyL ds = some ps ∧ PyData.canLayAll0 ps = true ∧ PyData.depthAll ps ≤ n
  | [], _, _ => ⟨[], rfl, rfl, Nat.zero_le _⟩
  | d :: ds, n, h => by
    unfold eokL at h
    obtain ⟨h1, h2⟩ := Bool.and_eq_true_iff.mp h
    obtain ⟨p, e1, e2, e3⟩ := toPy_ok h1
    obtain ⟨ps, f1, f2, f3⟩ := toPyL_ok h2
    refine ⟨p :: ps, by unfold toPyL; rw [e1, Option.bind_some, f1]; rfl, by rw [PyData.canLayAll0, e2, f2]; rfl, ?_⟩
    show max (PyData.depth p) (PyData.depthAll ps) ≤ n
    omega
end
mutual
def eqD : D → D → Bool
  | .non, .non => true
  | .bl a, .bl b => a == b
  | .int a, .int b => a == b
  | .bl a, .int b => b == (if a then 1 else 0)
  | .int a, .bl b => a == (if b then 1 else 0)
  | .str a, .str b => a == b
  | .tup a, .tup b => eqDs a b
  | .rol a, .rol b => eqDs a b
  | _, _ => false
def eqDs : List D → List D → Bool
  | [], [] => true
  | a :: as, b :: bs => eqD a b && eqDs as bs
  | _, _ => false
end
theorem toPy_tup {ds : List D} {p : PyData} (h : toPy (.tup ds) = some p) : ∃ ps, toPyL ds = some ps ∧ p = .tuple ps := by
  unfold toPy at h
  obtain ⟨ps, e1, e2⟩ := Option.map_eq_some_iff.mp h
  exact ⟨ps, e1, e2.symm⟩
theorem toPy_rol {ds : List D} {p : PyData} (h : toPy (.rol ds) = some p) : ∃ ps, toPyL ds = some ps ∧ p = .list ps := by
  unfold toPy at h
  obtain ⟨ps, e1, e2⟩ := Option.map_eq_some_iff.mp h
  exact ⟨ps, e1, e2.symm⟩
theorem eqv_flat (d e : D) {p q : PyData} (nt : ∀ a b, d = .tup a → e = .tup b → False) (nr : ∀ a b, d = .rol a → e = .rol b → False) (h1 : toPy d = some p) (h2 : toPy e = some q) : PyData.eqv p q = eqD d e := by
  have sc : ∀ {d : D} {p}, toPy d = some p → (d = .non ∧ p = .none) ∨ (∃ b, d = .bl b ∧ p = .bool b) ∨ (∃ b, d = .int b ∧ p = .int b) ∨ (∃ b, d = .str b ∧ p = .str b) ∨ (∃ a ps, d = .tup a ∧ p = .tuple ps) ∨ ∃ a ps, d = .rol a ∧ p = .list ps := by
    intro d p h
    cases d with
    | tup a => obtain ⟨ps, _, e⟩ := toPy_tup h; exact .inr (.inr (.inr (.inr (.inl ⟨a, ps, rfl, e⟩))))
    | rol a => obtain ⟨ps, _, e⟩ := toPy_rol h; exact .inr (.inr (.inr (.inr (.inr ⟨a, ps, rfl, e⟩))))
    | non => unfold toPy at h; cases h; exact .inl ⟨rfl, rfl⟩
    | bl b => unfold toPy at h; cases h; exact .inr (.inl ⟨b, rfl, rfl⟩)
    | int b => unfold toPy at h; cases h; exact .inr (.inr (.inl ⟨b, rfl, rfl⟩))
    | str b => unfold toPy at h; cases h; exact .inr (.inr (.inr (.inl ⟨b, rfl, rfl⟩)))
    | _ => unfold toPy at h; cases h
  rcases sc h1 with ⟨rfl, rfl⟩ | ⟨a, rfl, rfl⟩ | ⟨a, rfl, rfl⟩ | ⟨a, rfl, rfl⟩ | ⟨a, ps, rfl, rfl⟩ | ⟨a, ps, rfl, rfl⟩ <;>
  rcases sc h2 with ⟨rfl, rfl⟩ | ⟨b, rfl, rfl⟩ | ⟨b, rfl, rfl⟩ | ⟨b, rfl, rfl⟩ | ⟨b, qs, rfl, rfl⟩ | ⟨b, qs, rfl, rfl⟩ <;> first
    | (exact (nt _ _ rfl rfl).elim)
    | (exact (nr _ _ rfl rfl).elim)
    | (unfold PyData.eqv eqD; rfl)
    | (unfold PyData.eqv eqD; exact Bool.beq_comm ..)
    | (unfold PyData.eqv eqD; cases a <;> exact (decide_eq_decide.mpr ⟨fun z => z.symm, fun z => z.symm⟩))
mutual
theorem eqv_is : ∀ (d e : D) {p q : PyData}, toPy d = some p → toPy e = some q → PyData.eqv p q = eqD d e
  | .tup as, .tup bs, p, q, h1, h2 => by
    obtain ⟨ps, e1, rfl⟩ := toPy_tup h1
    obtain ⟨qs, e2, rfl⟩ := toPy_tup h2
    unfold PyData.eqv eqD
    exact eqvs_is as bs e1 e2
  | .rol as, .rol bs, p, q, h1, h2 => by
    obtain ⟨ps, e1, rfl⟩ := toPy_rol h1
    obtain ⟨qs, e2, rfl⟩ := toPy_rol h2
    unfold PyData.eqv eqD
    exact eqvs_is as bs e1 e2
  | .tup as, .non, _, _, h1, h2 => eqv_flat _ _ (fun _ _ _ z => by cases z) (fun _ _ z _ => by cases z) h1 h2
  | .tup as, .bl _, _, _, h1, h2 => eqv_flat _ _ (fun _ _ _ z => by cases z) (fun _ _ z _ => by cases z) h1 h2
  | .tup as, .int _, _, _, h1, h2 => eqv_flat _ _ (fun _ _ _ z => by cases z) (fun _ _ z _ => by cases z) h1 h2
  | .tup as, .str _, _, _, h1, h2 => eqv_flat _ _ (fun _ _ _ z => by cases z) (fun _ _ z _ => by cases z) h1 h2
  | .tup as, .rol _, _, _, h1, h2 => eqv_flat _ _ (fun _ _ _ z => by cases z) (fun _ _ z _ => by cases z) h1 h2
  | .tup as, .ref _, _, _, h1, h2 => eqv_flat _ _ (fun _ _ _ z => by cases z) (fun _ _ z _ => by cases z) h1 h2
  | .tup as, .obj _, _, _, h1, h2 => eqv_flat _ _ (fun _ _ _ z => by cases z) (fun _ _ z _ => by cases z) h1 h2
  | .tup as, .ty _, _, _, h1, h2 => eqv_flat _ _ (fun _ _ _ z => by cases z) (fun _ _ z _ => by cases z) h1 h2
  | .tup as, .kon _, _, _, h1, h2 => eqv_flat _ _ (fun _ _ _ z => by cases z) (fun _ _ z _ => by cases z) h1 h2
  | .tup as, .rdc _ _, _, _, h1, h2 => eqv_flat _ _ (fun _ _ _ z => by cases z) (fun _ _ z _ => by cases z) h1 h2
  | .tup as, .xo _ _ _ _, _, _, h1, h2 => eqv_flat _ _ (fun _ _ _ z => by cases z) (fun _ _ z _ => by cases z) h1 h2
  | .rol as, .non, _, _, h1, h2 => eqv_flat _ _ (fun _ _ z _ => by cases z) (fun _ _ _ z => by cases z) h1 h2
  | .rol as, .bl _, _, _, h1, h2 => eqv_flat _ _ (fun _ _ z _ => by cases z) (fun _ _ _ z => by cases z) h1 h2
  | .rol as, .int _, _, _, h1, h2 => eqv_flat _ _ (fun _ _ z _ => by cases z) (fun _ _ _ z => by cases z) h1 h2
  | .rol as, .str _, _, _, h1, h2 => eqv_flat _ _ (fun _ _ z _ => by cases z) (fun _ _ _ z => by cases z) h1 h2
  | .rol as, .tup _, _, _, h1, h2 => eqv_flat _ _ (fun _ _ z _ => by cases z) (fun _ _ _ z => by cases z) h1 h2
  | .rol as, .ref _, _, _, h1, h2 => eqv_flat _ _ (fun _ _ z _ => by cases z) (fun _ _ _ z => by cases z) h1 h2
  | .rol as, .obj _, _, _, h1, h2 => eqv_flat _ _ (fun _ _ z _ => by cases z) (fun _ _ _ z => by cases z) h1 h2
  | .rol as, .ty _, _, _, h1, h2 => eqv_flat _ _ (fun _ _ z _ => by cases z) (fun _ _ _ z => by cases z) h1 h2
  | .rol as, .kon _, _, _, h1, h2 => eqv_flat _ _ (fun _ _ z _ => by cases z) (fun _ _ _ z => by cases z) h1 h2
  | .rol as, .rdc _ _, _, _, h1, h2 => eqv_flat _ _ (fun _ _ z _ => by cases z) (fun _ _ _ z => by cases z) h1 h2
  | .rol as, .xo _ _ _ _, _, _, h1, h2 => eqv_flat _ _ (fun _ _ z _ => by cases z) (fun _ _ _ z => by cases z) h1 h2
  | .non, _, _, _, h1, h2 => eqv_flat _ _ (fun _ _ z _ => by cases z) (fun _ _ z _ => by cases z) h1 h2
  | .bl _, _, _, _, h1, h2 => eqv_flat _ _ (fun _ _ z _ => by cases z) (fun _ _ z _ => by cases z) h1 h2
  | .int _, _, _, _, h1, h2 => eqv_flat _ _ (fun _ _ z _ => by cases z) (fun _ _ z _ => by cases z) h1 h2
  | .str _, _, _, _, h1, h2 => eqv_flat _ _ (fun _ _ z _ => by cases z) (fun _ _ z _ => by cases z) h1 h2
  | .ref _, _, _, _, h1, h2 => eqv_flat _ _ (fun _ _ z _ => by cases z) (fun _ _ z _ => by cases z) h1 h2
  | .obj _, _, _, _, h1, h2 => eqv_flat _ _ (fun _ _ z _ => by cases z) (fun _ _ z _ => by cases z) h1 h2
  | .ty _, _, _, _, h1, h2 => eqv_flat _ _ (fun _ _ z _ => by cases z) (fun _ _ z _ => by cases z) h1 h2
  | .kon _, _, _, _, h1, h2 => eqv_flat _ _ (fun _ _ z _ => by cases z) (fun _ _ z _ => by cases z) h1 h2
  | .rdc _ _, _, _, _, h1, h2 => eqv_flat _ _ (fun _ _ z _ => by cases z) (fun _ _ z _ => by cases z) h1 h2
  | .xo _ _ _ _, _, _, _, h1, h2 => eqv_flat _ _ (fun _ _ z _ => by cases z) (fun _ _ z _ => by cases z) h1 h2
theorem eqvs_is : ∀ (d e : List D) {p q : List PyData}, toPyL d = some p → toPyL e = some q → PyData.eqvAll p q = eqDs d e
  | [], [], _, _, h1, h2 => by cases h1; cases h2; rfl
  | [], b :: bs, _, _, h1, h2 => by
    cases h1
    unfold toPyL at h2
    obtain ⟨x, e1, e2⟩ := Option.bind_eq_some_iff.mp h2
    obtain ⟨xs, e3, rfl⟩ := Option.map_eq_some_iff.mp e2
    rfl
  | b :: bs, [], _, _, h2, h1 => by
    cases h1
    unfold toPyL at h2
    obtain ⟨x, e1, e2⟩ := Option.bind_eq_some_iff.mp h2
    obtain ⟨xs, e3, rfl⟩ := Option.map_eq_some_iff.mp e2
    rfl
  | a :: as, b :: bs, _, _, h1, h2 => by
    unfold toPyL at h1 h2
    obtain ⟨x, e1, e2⟩ := Option.bind_eq_some_iff.mp h1
    obtain ⟨xs, e3, rfl⟩ := Option.map_eq_some_iff.mp e2
    obtain ⟨y, f1, f2⟩ := Option.bind_eq_some_iff.mp h2
    obtain ⟨ys, f3, rfl⟩ := Option.map_eq_some_iff.mp f2
    unfold PyData.eqvAll eqDs
    rw [eqv_is a b e1 f1, eqvs_is as bs e3 f3]
end
def seeD (d : D) (h : MH) : D := match d with
  | .ref n => (match lst? h n with
    | some ds => .rol ds
    | none => .ref n)
  | d => d
theorem toPyH_see {d : D} {h : MH} (n : Nat) (hn : n ≤ 64) (e : (seeD d h).eok n = true) : ∃ p, toPyH d h = some p ∧ SeqAt.shaped p = true ∧ toPy (seeD d h) = some p := by
  have fin : ∀ {p : PyData}, p.canLay0 = true → p.depth ≤ n → SeqAt.shaped p = true := fun h1 h2 => by
    unfold SeqAt.shaped
    rw [h1, decide_eq_true (by omega)]; rfl
  cases d with
  | ref k =>
    unfold seeD at e ⊢
    cases el : lst? h k with
    | none => simp only [el] at e; unfold D.eok at e; cases e
    | some ds =>
      simp only [el] at e ⊢
      obtain ⟨p, e1, e2, e3⟩ := toPy_ok e
      refine ⟨p, ?_, fin e2 e3, e1⟩
      show (lst? h k).bind _ = _
      rw [el]
      exact e1
  | _ =>
    obtain ⟨p, e1, e2, e3⟩ := toPy_ok e
    exact ⟨p, e1, fin e2 e3, e1⟩
theorem eqS_is {d e : D} {b : Bool} (h : eqS d e = some b) : b = eqD d e := by
  cases d <;> cases e <;> first
    | (cases h; done)
    | (cases h; unfold eqD; rfl)
    | (cases h; unfold eqD; simp)
theorem eqG_is {d e : D} {h : MH} {n m : Nat} (hn : n ≤ 64) (hm : m ≤ 64) (o1 : (seeD d h).eok n = true) (o2 : (seeD e h).eok m = true) : eqG d e h = some (eqD (seeD d h) (seeD e h)) := by
  unfold eqG
  split
  · rename_i b z
    have sd : seeD d h = d := by cases d <;> first | rfl | (cases e <;> cases z)
    have se : seeD e h = e := by cases e <;> first | rfl | (cases d <;> cases z)
    rw [sd, se, eqS_is z]
  · obtain ⟨p, e1, e2, e3⟩ := toPyH_see n hn o1
    obtain ⟨q, f1, f2, f3⟩ := toPyH_see m hm o2
    rw [e1, f1, Option.bind_some, Option.bind_some, e2, f2]
    rw [eqv_is _ _ e3 f3]
    rfl
theorem opEq_is {d e : D} {h : MH} {n m : Nat} (hn : n ≤ 64) (hm : m ≤ 64) (o1 : (seeD d h).eok n = true) (o2 : (seeD e h).eok m = true) : opEq d e h = .ok (.bl (eqD (seeD d h) (seeD e h))) h := by
  unfold opEq
  rw [eqG_is hn hm o1 o2]
theorem opNe_is {d e : D} {h : MH} {n m : Nat} (hn : n ≤ 64) (hm : m ≤ 64) (o1 : (seeD d h).eok n = true) (o2 : (seeD e h).eok m = true) : opNe d e h = .ok (.bl (!eqD (seeD d h) (seeD e h))) h := by
  unfold opNe
  rw [eqG_is hn hm o1 o2]
mutual
theorem eqD_refl : ∀ {d : D} {n : Nat}, d.eok n = true → eqD d d = true
  | .non, _, _ => rfl
  | .bl _, _, _ => by unfold eqD; simp
  | .int _, _, _ => by unfold eqD; simp
  | .str s, n, h => by unfold eqD; simp
  | .tup ds, 0, h => by unfold D.eok at h; cases h
  | .tup ds, n + 1, h => by unfold D.eok at h; unfold eqD; exact eqDs_refl h
  | .rol ds, 0, h => by unfold D.eok at h; cases h
  | .rol ds, n + 1, h => by unfold D.eok at h; unfold eqD; exact eqDs_refl h
  | .ref _, _, h => by unfold D.eok at h; cases h
  | .obj _, _, h => by unfold D.eok at h; cases h
  | .ty _, _, h => by unfold D.eok at h; cases h
  | .kon _, _, h => by unfold D.eok at h; cases h
  | .rdc _ _, _, h => by unfold D.eok at h; cases h
  | .xo _ _ _ _, _, h => by unfold D.eok at h; cases h
theorem eqDs_refl : ∀ {ds : List D} {n : Nat}, eokL n ds = true → eqDs ds ds = true
  | [], _, _ => rfl
  | d :: ds, n, h => by
    unfold eokL at h
    obtain ⟨h1, h2⟩ := Bool.and_eq_true_iff.mp h
    unfold eqDs
    rw [eqD_refl h1, eqDs_refl h2]; rfl
end
theorem eok_ints (n : Nat) : ∀ l : List Int, eokL n (l.map D.int) = true
  | [] => rfl
  | x :: r => by
    show ((D.int x).eok n && eokL n (r.map D.int)) = true
    rw [eok_ints n r, show (D.int x).eok n = true by unfold D.eok; rfl]; rfl
end MM
namespace MM
open PySem PySem.Spec PyProof.Rows L2
section
variable {prog : Program} {w : World} {K : Type} [DecidableEq K] {knd : KeyKind prog w K} {A : Around} {E : Value → Shared → Prop} {s : Shared}
end
abbrev It := Expr × Expr × Key × V
abbrev itK (it : It) : Key × V := it.2.2
section
variable {X : Cx} {pos : Pos} {pins : List (Addr × Obj)} {σ : L2.St}
end
section
variable {X : Cx} {W : WX} {pos : Pos}
theorem pe_callS0 {CX : CXT} {k : Nat} {f : Addr} {fd : FuncData} {ps : List Str} {sp : Sp} {E : L2.St → XK} {x : Str} {p : Pos} (F : FnOk X.prog X.w X.K X.mg X.base CX k f fd ps sp) (hr : Room k X.A) (hg : Gl X x) (hm : X.mg x = some (.ref f)) (hk : PySem.W.keepIn X.K (.ref f) = true) (hb : Binds X.K fd ps []) (hx : ∀ σ, PassesAt CX X σ (E σ))
    (hdb : (x == ("__debug__" : Str)) = false := by decide) : PE X (.Call (.Name x p) [] [] pos) (tCallS sp E tNil) := by
  refine ⟨fun pins s σ H Q I h => ?_⟩
  refine wpAny_Call_Name_kw (ld_glob I hg hm ?_ hdb)
  exact PySem.W.callWith_K0 I.kIn hk (run_fnS (us := []) F hr hb (hx σ) I .nil h)
theorem pem_call0 {x : Str} {st : Stmt} {f : Addr} {fd : FuncData} {ps : List Str} {k : Nat} {m : List D → MH → R D} {p : Pos} (F : FnM X.prog X.w X.K X.mg X.base k f fd ps m) (DA : DefAt X.K X.mg x st f fd ps) (hr : Room k X.A) (tk : L2N.Takes X W) (hg : Gl X x)
    (hdb : (x == ("__debug__" : Str)) = false := by decide) : PEM X W (.Call (.Name x p) [] [] pos) (mCall m mNil) :=
  PE.imp (pe_callS0 (E := WE W) F hr hg DA.mg' DA.fn.kp DA.bi (fun σ => L2N.passAt tk σ) hdb) fun σ H Q ⟨L, h, δ, r0, s, a⟩ => ⟨L, h, [], r0, .nil, a⟩
end
def rCatS (K : PySem.W.Frag) : R2 := fun x y H Q => ∃ l b xs zs, x = .ref l ∧ y = .ref b ∧ SqL K H l xs ∧ SqL K H b zs ∧ xs.length + zs.length ≤ sizeLine ∧ ∀ p, H p = none → Q (.ref p) (upd H p (.lst (xs ++ zs)))
theorem op_catS {X : Cx} : OpR X (binaryOp .Add) (rCatS X.K) := by
  intro pins s σ H x y v u Q I rx ry h
  obtain ⟨l, b, xs, zs, rfl, rfl, hH, hB, hz, q⟩ := h
  cases rx
  cases ry
  obtain ⟨its, r, ⟨o, n, e, c, dn, d⟩, _⟩ := I.list hH
  obtain ⟨its2, r2, ⟨o2, n2, e2, c2, dn2, d2⟩, _⟩ := I.list hB
  obtain ⟨oc, od, odt, osl⟩ := o
  obtain ⟨oc2, od2, odt2, osl2⟩ := o2
  simp only at c dn d c2 dn2 d2
  subst c d c2 d2
  have h1 := r.length
  have h2 := r2.length
  have hsz : its.toArray.size + its2.toArray.size ≤ sizeLine := by rw [List.size_toArray, List.size_toArray]; omega
  refine concat_meets ⟨_, e, rfl⟩ ⟨_, e2, rfl⟩ noFill_list_add seq_list_add PySem.F.slot_list_add PySem.F.entry_list_add (PySem.F.args_list_add_2 _ _) (list_addW l b its.toArray its2.toArray n n2 od od2 osl osl2 hsz) ⟨e, e2, ?_⟩
  have ea : its.toArray ++ its2.toArray = (its ++ its2).toArray := by simp
  rw [ea]
  exact ⟨.ref _, _, I.lnew (t' := s.toks) (r.append r2) (by rw [List.length_append]; omega), rfl, q _ I.fresh⟩
def opAddS (x y : D) (h : MH) : R D := match x, y with
  | .rol a, .rol b => if a.length + b.length ≤ 16777216 then .ok (.rol (a ++ b)) h else .stuck
  | x, y => opAdd x y h
def rAddS (K : PySem.W.Frag) : R2 := fun x y H Q => rAdd3 K x y H Q ∨ rCatS K x y H Q
theorem op_addS {X : Cx} : OpR X (binaryOp .Add) (rAddS X.K) := op_add3.or op_catS
theorem rol_sf {K L H v ds} (q : Rep K L H (.rol ds) v) : ∃ p xs, v = .ref p ∧ SqL K H p xs ∧ RepL K L H ds xs := by
  unfold Rep at q
  obtain ⟨p, xs, rfl, s, w⟩ := q
  exact ⟨p, xs, rfl, s.sq, w⟩
theorem opAddS_ok {K : PySem.W.Frag} : OpM K (rAddS K) opAddS := by
  intro L H h dx dy x y Q E r px py a
  unfold opAddS at a
  split at a
  · rename_i ds es
    split at a
    · rename_i z
      obtain ⟨p, xs, rfl, s, w⟩ := rol_sf px
      obtain ⟨q, ys, rfl, s', w'⟩ := rol_sf py
      exact .inr ⟨p, q, xs, ys, rfl, rfl, s, s', by rw [← w.length, ← w'.length]; exact szl z, fun p hp => ans_of (rep_rol r hp (w.append w')) a⟩
    · exact a.elim
  · exact .inl (opAdd_ok L H h dx dy x y Q E r px py a)
section
variable {h : MH}
@[simp] theorem opAddS_int {i j : Int} : opAddS (.int i) (.int j) h = .ok (.int (i + j)) h := rfl
@[simp] theorem opAddS_str {x y : Str} (e : x.length + y.length ≤ 16777216) : opAddS (.str x) (.str y) h = .ok (.str (x ++ y)) h := if_pos e
@[simp] theorem opAddS_tup {x y : List D} (e : x.length + y.length ≤ 16777216) : opAddS (.tup x) (.tup y) h = .ok (.tup (x ++ y)) h := if_pos e
@[simp] theorem opAddS_rol {x y : List D} (e : x.length + y.length ≤ 16777216) : opAddS (.rol x) (.rol y) h = .ok (.rol (x ++ y)) h := if_pos e
end
end MM
set_option maxHeartbeats 2000000
namespace MZ
open PySem PySem.Spec PyProof.Rows
section
variable {M : Model} {A : Around} {E : Value → Shared → Prop} {s : Shared}
end
section
variable {prog : Program} {w : World} {A : Around} {E : Value → Shared → Prop} {s : Shared} {z TI TO i1 i2 l1 l2 T : Addr} {k1 k2 : Nat} {xs ys : Array Value} {x y : Value} {f1 : Bool}
end
structure ZMade (xs ys : Array Value) (lo : Nat) (h : Heap) (ts : List Addr) : Prop where
  rise : ts.Pairwise (· < ·)
  low : ∀ t ∈ ts, lo ≤ t
  prs : ∀ (j : Nat) (t : Addr), ts[j]? = some t → ∃ x y, xs[j]? = some x ∧ ys[j]? = some y ∧ IsPair h t x y
theorem ZMade.up {xs ys : Array Value} {lo : Nat} {h h' : Heap} {ts : List Addr} (g : ZMade xs ys lo h ts) (k : ∀ t ∈ ts, ∀ o, h.get? t = some o → h'.get? t = some o) : ZMade xs ys lo h' ts :=
  ⟨g.rise, g.low, fun j t e => let ⟨x, y, e1, e2, e3⟩ := g.prs j t e; ⟨x, y, e1, e2, k t (List.mem_of_getElem? e) _ e3⟩⟩
section
variable {prog : Program} {w : World} {A : Around} {s : Shared} {R : Result → Shared → Prop} {S z TI TO i1 i2 l1 l2 : Addr} {xs ys : Array Value} {lo n : Nat} {h₁ : Heap} {res : Value}
end
section
variable {prog : Program} {w : World} {A : Around} {E : Value → Shared → Prop} {s : Shared} {R : Result → Shared → Prop} {S z TI TO i1 i2 l1 l2 : Addr} {xs ys : Array Value} {lo n : Nat} {res a b : Value}
end
end MZ
namespace MM
open PySem PySem.Spec PyProof.Rows L2
theorem Rel.grow {K L H H'} {h : MH} (r : Rel K L H h) (k : ∀ c o, H c = some o → H' c = some o) : Ext L H L H' ∧ Rel K L H' h := by
  have x : Ext L H L H' := ⟨fun _ _ e => .inl e, fun a o e n => ⟨k a o e, n⟩, fun a o u e => k a _ e⟩
  refine ⟨x, r.len, fun n o e => (r.at' n o e).mono x fun a ea => ?_, r.inj⟩
  obtain ⟨u, eu⟩ := r.live ea
  rw [eu]; exact k a u eu
def opPow (x y : D) (h : MH) : R D := match x, y with
  | .int i, .int j => if 0 ≤ j ∧ j ≤ 1000000 ∧ i.natAbs < 2 ^ 64 then .ok (.int (i ^ j.toNat)) h else .stuck
  | _, _ => .stuck
theorem opPow_ok {K : PySem.W.Frag} : OpM K (rI CPow fun i j => .int (i ^ j.toNat)) opPow := by
  intro L H h dx dy x y Q E r px py a
  unfold opPow at a
  split at a
  · rename_i i j
    split at a
    · rename_i z
      exact ⟨i, j, rep_int_inv px, rep_int_inv py, z, ans_okE r rep_int a⟩
    · exact a.elim
  · exact a.elim
theorem RepL.erase {K : PySem.W.Frag} {L : TL} {H : Hp} : ∀ {ds : List D} {vs : List V} (n : Nat), RepL K L H ds vs → RepL K L H (ds.eraseIdx n) (vs.eraseIdx n)
  | [], _, n, w => by rw [w.nil_inv]; exact .nil
  | d :: ds, _, 0, w => by
    obtain ⟨v, vs, rfl, _, w2⟩ := w.cons_inv
    exact w2
  | d :: ds, _, n + 1, w => by
    obtain ⟨v, vs, rfl, q, w2⟩ := w.cons_inv
    exact .cons q (RepL.erase n w2)
end MM
set_option maxHeartbeats 4000000
namespace ME
open PySem PySem.W PySem.Spec PySem.Calls PyProof.Rows L2 NdefX
section
variable {prog : Program} {w : World} {A : Around} {E : Value → Shared → Prop} {h : Heap} {g : Array GenState} {d : Drawn} {t : Nat} {os : OsState}
theorem call_mw {u e t0 C N : Addr} {nm q : Str} {bs bm : List Value} {hdct : Bool} {sn : List Str} {sub : List Value} {ab : Bool} {col : Option Bool} {dd : Option Addr} {k0 k1 k2 k3 k5 : Option Value} {rest : List Value} {Q : Value → Shared → Prop}
    (hC : h.get? C = some (excClassObj nm q C N bs bm hdct sn sub ab col dd k0 k1 k2 k3 k5 "ValueError.__new__")) (he : h.get? e = some (excObj C t0 none .none)) (hu : h.get? u = some (kxs_mw "ValueError.__init__" e)) (hz : rest.length ≤ sizeLine)
    (hq : ∀ h', (∀ b o, b ≠ e → h.get? b = some o → h'.get? b = some o) → h'.get? e = some (excObj C h.objs.size none .none) → Q .none ⟨h', g, d, t, os⟩) : wpAny (model prog w) A (call (.ref u) rest) Q E ⟨h, g, d, t, os⟩ := by
  refine wpAny_call (codeAny_of_tree ?_)
  show wpAny _ A.in1 (callAny (.ref u) ⟨rest, []⟩) _ _ _
  simp only [callAny]
  refine wpAny_bind (wpAny_load hu ?_)
  simp only [kxs_mw, show (Value.type "method-wrapper" == Value.type "method" || Value.type "method-wrapper" == Value.type "builtin_function_or_method" || Value.type "method-wrapper" == Value.type "method-wrapper") = true by decide, if_true]
  refine KFB.if_so (by decide) ?_
  refine wpAny_bind (check_bound_init F.excBase_ValueError.toExcCallFacts hC he rfl ?_)
  refine wpAny_bind (wpAny_pure (wpAny_pure ?_))
  refine ⟨plainId_quiet F.excBase_ValueError.init.plain _, codeAny_builtin F.excBase_ValueError.initEntry ?_⟩
  exact exc_init_tree (cls := .ref C) (t0 := t0) (dv := none) (c2 := .none) (c3 := .none) (b4 := .bool false) he hz fun h' k e' _ => hq h' k e'
end
structure XInit (P : Program) (K : Frag) (C fI : Addr) (qual : Str) (st : Stmt) (cA cd : Addr) (fd : FuncData) : Prop where
  T : OexC K C
  fn : ∃ (dV kV doc pm ct : Value) (an : Option Addr), fd = fnX "__init__" qual (C8.fnArgs st) (C8.fnBody st) (C8.fnScope st) [((Str.ofString "__class__"), cA)] dV kV doc pm an (.ref cd) ct
  lk : ∃ (oc : Value) (od : Option Addr) (osl : Array (Option Value)), K.lookup fI = some ⟨oc, od, .func fd, osl⟩
  code : codeIn K (.ref cd) qual = true
  cel : ∃ (oc : Value) (od : Option Addr) (osl : Array (Option Value)), K.lookup cA = some ⟨oc, od, .cell (some (.ref C)), osl⟩
  cdo : ∃ (oc : Value) (od : Option Addr) (osl : Array (Option Value)) (vs : Array Value) (file : Str) (tf : Tok), K.lookup cd = some ⟨oc, od, .fields vs, osl⟩ ∧ vs[2]? = some (.str file tf) ∧ ((P.main.file : Str) == file) = true
  sup : ks_superIn K C C (Str.ofString "__init__") = some (some (Value.builtin "ValueError.__init__"))
  any : nsIn K cStatics "thirdparty.any" = some none
  ve : subIn K (.ref C) (.type "ValueError") = some true
  own : mroIn K C (.ref C) = some true
  top : (P.main.scope.names.lookup (Str.ofString "super")).isSome = false
abbrev nfI (qual : Str) (st : Stmt) (cA cd : Addr) : NF := ⟨"__init__", qual, C8.fnArgs st, C8.fnBody st, C8.fnScope st, [((Str.ofString "__class__"), cA)], cd⟩
section
variable {CX : CXT} {P : Program} {w : World} {K : Frag} {mg : Str → Option Value} {base : Heap} {k : Nat} {C fI cA cd : Addr} {qual : Str} {st : Stmt} {fd : FuncData} {N ps : List Str} {sp : Sp} {e1 : Expr} {es : List Expr} {rest : List Stmt} {p0 p1 p2 p3 p4 : Pos} {self : Str} {ar : Arg}
theorem init_fn (XI : XInit P K C fI qual st cA cd fd) (S : NScope N ps [(Str.ofString "__class__")] (C8.fnScope st)) (hm : mg "super" = none)
    (hks : (C8.fnScope st).names.lookup (Str.ofString "super") = some .globalImplicit) (hkc : (C8.fnScope st).names.lookup (Str.ofString "__class__") = some .free)
    (har : ((C8.fnArgs st).posonlyargs ++ (C8.fnArgs st).args).head? = some ar) (hN0 : N[0]? = some ar.arg) (hka : (C8.fnScope st).names.lookup ar.arg = some .local)
    (hbody : C8.fnBody st = .Expr (.Call (.Attribute (.Call (.Name (Str.ofString "super") p0) [] [] p1) (Str.ofString "__init__") p2) (e1 :: es) [] p3) p4 :: rest)
    (len : ∀ vs H Q E, sp vs H Q E → vs.length = ps.length)
    (run : ∀ (A : Around) (outer : List Env) (s : Shared) (H : Hp) (vs : List V) (Q : VK) (E : XK), Room k (A.deeper (envF (nfI qual st cA cd) fI s.heap.objs.size)) → sp vs H Q E →
      ∃ (a : Addr) (ta : TA) (t : TS), vs[0]? = some (.ref a) ∧ H a = some (exo a C none) ∧ PA (ncx CX P w K mg base N (nfI qual st cA cd) fI A outer s H E) (e1 :: es) ta ∧ PSs (ncx CX P w K mg base N (nfI qual st cA cd) fI A outer s H E) rest t ∧
        ta (startF N vs [none]) H (fun ws H1 => ws.length ≤ 1000 ∧ H1 a = some (exo a C none) ∧ t { nx := fun _ H' => Q .non H', rt := Q } (startF N vs [none]) H1))
    (hst : ∀ (env : Env), starEach (e1 :: es) env = (false, eval e1 env) :: starEach es env) (hpl : ∀ (env : Env), (backTo p3 (starEach es env)).any (·.1) = false)
    (hint : ∀ (env : Env), swapsWith (.Call (.Attribute (.Call (.Name (Str.ofString "super") p0) [] [] p1) (Str.ofString "__init__") p2) (e1 :: es) [] p3) none p4.line env = pure false)
    (hcall : ∀ (env : Env), ∃ pl : Sem Bool, eval (.Call (.Attribute (.Call (.Name (Str.ofString "super") p0) [] [] p1) (Str.ofString "__init__") p2) (e1 :: es) [] p3) env = (do
      let ov ← attributeBase (.Call (.Name (Str.ofString "super") p0) [] [] p1) (Str.ofString "__init__") env (eval (.Call (.Name (Str.ofString "super") p0) [] [] p1) env)
      standAt p2.atName
      let (f, first) ← holding [ov] (getMethod ov (Str.ofString "__init__") pl)
      callWith p3 f first (backTo p3 (starEach (e1 :: es) env)) [])) :
    FnOk P w K mg base CX (k + 1) fI fd ps sp := by
  refine ⟨len, fun A outer s H args us vs Q E hr e0 hb r hsp => ?_⟩
  have hl := len _ _ _ _ hsp
  have KX : K.In s.heap := e0.mod.kin.keeps fun b o e => (e0.bs b o e).1
  have KB : K.In base := e0.mod.kin
  have lim : s.heap.NoLimit := e0.mod.nolimit.keeps fun b o e => (e0.bs b o e).1
  obtain ⟨dV, kV, doc, pm, ct, an, rfl⟩ := XI.fn
  obtain ⟨oc, od, osl, lk⟩ := XI.lk
  obtain ⟨oc2, od2, osl2, cel⟩ := XI.cel
  refine codeAny_call_function hr.depth (KX _ _ lk) rfl S.co S.gen rfl (codeRec_of KX XI.code) (hb _ _ _ _ ?_)
  refine wpAny_newFunctionEnv S.nocell (fun ⟨n, _⟩ hy => S.par n (List.of_mem_zip hy).1) (fun h₁ hns hsb => ⟨lim.fresh _ hsb, ?_⟩) S.kind
  have kp : ∀ b o, s.heap.get? b = some o → h₁.get? b = some o := fun b o e => hsb.extBut b o (Nat.ne_of_lt (Heap.lt_size e)) (Heap.get?_push_of_some _ e)
  obtain ⟨a, ta, t, hv0, hea, hta, ht, hq⟩ := run A outer s H vs Q E (hr.deeper _) hsp
  have CA : CellsAt [((Str.ofString "__class__"), cA)] [(Str.ofString "__class__")] [none] s.heap H := by
    have one : ∀ {y : Str} {c : Addr}, [((Str.ofString "__class__"), cA)].lookup y = some c → c = cA ∧ y = Str.ofString "__class__" := fun {y c} e => by
      by_cases z : y = Str.ofString "__class__"
      · subst z; simp [List.lookup] at e; exact ⟨e.symm, rfl⟩
      · have : (y == Str.ofString "__class__") = false := by simpa using z
        simp [List.lookup, this] at e
    refine ⟨rfl, fun y c e => ?_, fun x y c h1 h2 => ?_, fun i y e => ?_⟩
    · obtain ⟨rfl, _⟩ := one e
      exact ⟨(e0.bs _ _ (KB _ _ cel)).2, _, _, KX _ _ cel, rfl⟩
    · rw [(one h1).2, (one h2).2]
    · cases i with
      | zero =>
        have : Str.ofString "__class__" = y := by simpa using e
        subst this
        exact ⟨cA, by simp [List.lookup], fun v hv => by simp at hv⟩
      | succ i => simp at e
  have I : Inv (ncx CX P w K mg base N (nfI qual st cA cd) fI A outer s H E) [] (startF N vs [none]) H { s with heap := h₁, toks := s.toks + (ps.zip us).length } := inv_startN S hr.hd e0 hl r CA hns kp
  refine ks_codeAny_funcAt ?_
  generalize hEE : (fun (e : Value) (s' : Shared) => wpAny (model P w) (A.deeper (envF (nfI qual st cA cd) fI s.heap.objs.size)) (leaving (envF (nfI qual st cA cd) fI s.heap.objs.size) e) (fun _ s'' => CR CX outer P w H s Q E (.error e) s'') (fun e' s'' => CR CX outer P w H s Q E (.error e') s'') s') = EE
  show PySem.wpAt (model P w) (A.deeper (envF (nfI qual st cA cd) fI s.heap.objs.size)) (.func (C8.fnBody st) (envF (nfI qual st cA cd) fI s.heap.objs.size)) (execs (C8.fnBody st) (envF (nfI qual st cA cd) fI s.heap.objs.size)) _ _ _
  have hb2 : execs (C8.fnBody st) (envF (nfI qual st cA cd) fI s.heap.objs.size) = execs (.Expr (.Call (.Attribute (.Call (.Name (Str.ofString "super") p0) [] [] p1) (Str.ofString "__init__") p2) (e1 :: es) [] p3) p4 :: rest) (envF (nfI qual st cA cd) fI s.heap.objs.size) := by rw [hbody]
  rw [hb2]
  have hgl : (envF (nfI qual st cA cd) fI s.heap.objs.size).kindOf (Str.ofString "super") = some .globalImplicit := hks
  obtain ⟨nm, q, NC, bs, bm, sn, sub, ab, col, dd, k0, k1, k2, k3, k5, hC, hbm⟩ := XI.T.cls
  have hcl : clsIn K C = some { name := nm, bases := bs, mro := .ref C :: bm, ns := NC, qualname := q, hasDict := true, slotNames := sn, subclasses := sub, abstract := ab, collection := col, hasDel := false } := by unfold clsIn; rw [hC] <;> rfl
  have hpin : ∀ (I : Inv (ncx CX P w K mg base N (nfI qual st cA cd) fI A outer s H E) [] (startF N vs [none]) H { s with heap := h₁, toks := s.toks + (ps.zip us).length }), True := fun _ => trivial
  obtain ⟨pl, hcl2⟩ := hcall (envF (nfI qual st cA cd) fI s.heap.objs.size)
  refine ks_wpAt_execs_cons (ks_wpAt_Expr_any (ks_wpAt_MethodCall (pl := pl) ?_ hcl2) (Inv.quiet I) (hint _))
  obtain ⟨oc3, od3, osl3, vs3, file, tf, hcode, hvs, hfile⟩ := XI.cdo
  refine ks_wpAt_super_base (env := envF (nfI qual st cA cd) fI s.heap.objs.size) hks hkc (by decide) rfl (I.kIn _ _ lk) rfl har rfl (I.kIn _ _ hcode) rfl hvs hfile XI.top ?_
  obtain ⟨mb, b1, b2⟩ := I.mod.blt
  refine ks_loadName_global S.kind hks (loadGlobal_builtin (env := envF (nfI qual st cA cd) fI s.heap.objs.size) (I.mod.glob.keeps I.bk) hm (b1.keeps I.bk) ((b2 _ (by decide)).trans PyProof.Rows.Boot.«super») ⟨rfl, ?_⟩)
  refine wpAny_loadName_free S.kind hkc (show List.lookup _ [((Str.ofString "__class__"), cA)] = some cA by simp [List.lookup]) ⟨_, I.kIn _ _ cel, rfl⟩ ?_
  obtain ⟨m1, hns1, hl1⟩ := I.loc
  have hσ0 : (startF N vs [none])[0]? = some (some (V.ref a)) := by
    unfold startF
    rw [List.getElem?_append_left (by rw [List.length_map]; exact (List.getElem?_eq_some_iff.mp hv0).1), List.getElem?_map, hv0]; rfl
  obtain ⟨u, ru, lku⟩ := hl1 0 ar.arg (.ref a) hN0 hσ0 (.inl hka)
  obtain rfl : u = Value.ref a := ru
  have hm1 : m1 ar.arg = some (.ref a) := by
    rcases lku with ⟨_, z⟩ | ⟨z, _⟩
    · exact z
    · have z' : (C8.fnScope st).names.lookup ar.arg = some .cell ∨ (C8.fnScope st).names.lookup ar.arg = some .free := z
      rw [hka] at z'
      rcases z' with z' | z' <;> cases z'
  refine wpAny_loadName_local S.kind hka hns1 hm1 ?_
  refine ks_wpAny_isType_cls (I.kIn _ _ hC) rfl ⟨rfl, ?_⟩
  obtain ⟨t1, hx⟩ := exo_at I.hok hea
  refine ks_wpAny_call_super (I.kIn _ _ hC) rfl hx rfl (fun c z => by cases z) (looks_mroIn I.kIn XI.own) fun h' hso kso => ?_
  have I2 := I.kept (h' := h') (t' := s.toks + (ps.zip us).length) kso
  obtain ⟨t2, hx2⟩ := exo_at I2.hok hea
  have IA : InstAt h' a { cls := .ref C, dict := none, data := .fields #[.ref t2, .none, .none, .none, .bool false, .none] } C none := ⟨hx2, rfl, rfl, trivial⟩
  have sup : alongIn K (Str.ofString "__init__") (((Value.ref C :: bm).dropWhile (· != .ref C)).drop 1) = some (some (Value.builtin "ValueError.__init__")) := by
    have := XI.sup
    unfold ks_superIn at this
    rw [hcl] at this
    exact this
  refine kxs_getMethod kxs_ValueError hso (looks_opaque I2.kIn XI.any) (l₀ := .ref C :: bm) (fun A Q E s k q => wpAny_bind ((looks_clsIn I2.kIn hcl) A _ E s k (wpAny_pure q))) rfl I2.kIn sup (IA.type.andThen (looks_subIn I2.kIn XI.ve)) (ks_ne I2.kIn IA hcl) (by decide) ?_
  have km : ∀ b o, h'.get? b = some o → (h'.push (kxs_mw "ValueError.__init__" a)).get? b = some o := fun b o e => Heap.get?_push_of_some _ e
  have I3 := I2.kept (h' := h'.push (kxs_mw "ValueError.__init__" a)) (t' := s.toks + (ps.zip us).length + 1) km
  have hu : (h'.push (kxs_mw "ValueError.__init__" a)).get? h'.objs.size = some (kxs_mw "ValueError.__init__" a) := Heap.get?_push_at rfl rfl
  have I4 : Inv (ncx CX P w K mg base N (nfI qual st cA cd) fI A outer s H E) [(h'.objs.size, kxs_mw "ValueError.__init__" a)] (startF N vs [none]) H ⟨h'.push (kxs_mw "ValueError.__init__" a), s.gens, s.drawn, s.toks + (ps.zip us).length + 1, s.os⟩ := I3.pins_of fun p hp => by
    rw [List.mem_singleton.mp hp]
    exact ⟨hu, I2.hok.fresh (Nat.le_refl _), Nat.ne_of_gt I2.lt, I2.nofs (Nat.le_refl _), fun v z => by cases z⟩
  rw [hst]
  refine kxs_callWith (i := "ValueError.__init__") (x := a) (by show (false || (backTo p3 (starEach es _)).any (·.1)) = false; rw [hpl]; rfl) (evalArgs_plain ?_)
  have hrun := hta.run p3 [(h'.objs.size, kxs_mw "ValueError.__init__" a)] _ (startF N vs [none]) H _ I4 hq
  rw [show starEach (e1 :: es) (ncx CX P w K mg base N (nfI qual st cA cd) fI A outer s H E).env = _ from hst _] at hrun
  subst hEE
  refine wpAny_mono hrun (fun ws s5 ⟨vs', H1, I5, r5, hz5, ea5, q5⟩ => ?_) fun e s5 z => z
  have hp5 := (I5.pin (h'.objs.size, kxs_mw "ValueError.__init__" a) (by simp)).1
  obtain ⟨t5, hx5⟩ := exo_at I5.hok ea5
  obtain ⟨h5, g5, d5, tk5, os5⟩ := s5
  have I5' : Inv (ncx CX P w K mg base N (nfI qual st cA cd) fI A outer s H E) [] (startF N vs [none]) H1 ⟨h5, g5, d5, tk5, os5⟩ := I5.pins_of fun p hp => nomatch hp
  have hlen : ws.length ≤ sizeLine := by
    rw [← Paired.length r5, sizeLine_eq]
    omega
  refine ⟨hp5, call_mw (I5.kIn _ _ hC) hx5 hp5 hlen fun h6 k6 hx6 => ?_⟩
  have J := I5'.write (t' := tk5) (x := a) (e := a) (o := exo a C none) (by rw [ea5]; exact True.intro) (.inl rfl) k6 ⟨_, hx6⟩ (exo_ok hx6)
  have eu : upd H1 a (exo a C none) = H1 := by
    funext b
    by_cases hb : b = a
    · rw [hb, upd_same, ea5]
    · rw [upd_ne hb]
  rw [eu] at J
  refine PySem.wpAt_of_wpAny ?_
  refine wpAny_mono (ht.run [] _ (startF N vs [none]) H1 _ J q5) (fun fl s' hs => ?_) fun e s' hs => hs
  have fin2 : ∀ {σ' : L2.St} {H' : Hp} {v : V} {u : Value}, Inv (ncx CX P w K mg base N (nfI qual st cA cd) fI A outer s H E) [] σ' H' s' → L2.RelV v u → Q v H' → CE outer P w H s Q u s' :=
    fun {σ' H' v u} J rv q => ⟨v, H', J.os, J.bare, J.base, J.hok, rv, q⟩
  cases fl with
  | ret u =>
    obtain ⟨v, σ', H', J, rv, q⟩ := hs
    exact fin2 J rv q
  | next =>
    obtain ⟨σ', H', J, q⟩ := hs
    exact fin2 (v := V.non) (u := Value.none) J rfl q
  | brk =>
    obtain ⟨_, _, _, q⟩ := hs
    exact False.elim q
  | cont =>
    obtain ⟨_, _, _, q⟩ := hs
    exact False.elim q
end
end ME
namespace ME
open PySem PySem.Spec PyProof.Rows L2 NdefX MM
def okV : V → Bool
  | .int i => decide (i.natAbs.log2 < 1920)
  | .str s => decide (s.length ≤ 100000)
  | _ => false
def spI (C : Addr) (fl : List Str) : Sp := fun vs H Q _ => ∃ (a : Addr) (ys : List V), vs = .ref a :: ys ∧ ys.length = fl.length ∧ ys.all okV = true ∧ H a = some (exo a C none) ∧
  ∀ dx, H dx = none → dx ≠ a → Q .non (upd (upd H dx (exd dx ((fl.zip ys).reverse))) a (exo a C (some dx)))
theorem int_len {i : Int} (h : i.natAbs.log2 < 1920) : (Str.ofString (toString i)).length ≤ 600 := by
  have h1 : i.natAbs < 2 ^ 1920 := by
    by_cases z : i.natAbs = 0
    · rw [z]; exact Nat.pow_pos (by decide)
    · exact (Nat.log2_lt z).mp h
  have h2 : (2 : Nat) ^ 1920 < 10 ^ 580 := by decide +kernel
  have hl := TL.numL_len (n := i.natAbs) (k := 580) (by decide) (by omega)
  show (Str.ofString (toString i)).cps.size ≤ 600
  have e := sgn_int i
  have e2 : (Str.ofString (toString i)).cps.size = ((Str.ofString (toString i)).cps.toList).length := by simp
  rw [e2, e]
  split
  · rw [List.length_cons]; omega
  · omega
theorem fmt_ok {i : Nat} {σ : L2.St} {v : V} (e : σ[i]? = some (some v)) (ok : okV v = true) (H : Hp) (Q : VK) (h : ∀ y : Str, y.length ≤ 100000 → Q (.str y) H) : tFmt (tVar i) σ H Q := by
  refine ⟨v, e, ?_⟩
  cases v with
  | int i =>
    have z : i.natAbs.log2 < 1920 := by simpa [okV] using ok
    exact .inr ⟨i, rfl, z, h _ (by have := int_len z; omega)⟩
  | str s =>
    have z : s.length ≤ 100000 := by simpa [okV] using ok
    exact .inl ⟨s, rfl, by rw [sizeLine_eq]; omega, h _ z⟩
  | _ => cases ok
section
variable {X : Cx} {st : Stmt} {σ : L2.St} {H : Hp}
def Msg (t : TE) (σ : L2.St) : Prop := ∀ (H : Hp) (Q : VK), (∀ v, Q v H) → t σ H Q
def Part (t : TE) (σ : L2.St) : Prop := ∀ (H : Hp) (Q : VK), (∀ y : Str, y.length ≤ 100000 → Q (.str y) H) → t σ H Q
theorem part_str {s : Str} (h : s.length ≤ 100000) : Part (tC (.str s)) σ := fun H Q q => q _ h
theorem part_fmt {i : Nat} {v : V} (e : σ[i]? = some (some v)) (ok : okV v = true) : Part (tFmt (tVar i)) σ := fun H Q q => fmt_ok e ok H Q q
theorem msg_parts : ∀ {ts : List TE} (acc : Str) (H : Hp) (Q : Str → Hp → Prop), (∀ t ∈ ts, Part t σ) → acc.length + 100000 * ts.length ≤ 16777216 → (∀ y, Q y H) → tJs ts acc σ H Q
  | [], acc, H, Q, _, _, q => q acc
  | t :: ts, acc, H, Q, ht, hl, q => by
    refine ht t (by simp) H _ fun y hy => ⟨y, rfl, ?_, msg_parts (acc ++ y) H Q (fun u hu => ht u (by simp [hu])) ?_ q⟩
    · rw [sizeLine_eq, Str.length_append]
      rw [List.length_cons, Nat.mul_add] at hl
      omega
    · rw [Str.length_append]
      rw [List.length_cons, Nat.mul_add] at hl
      omega
end
end ME
namespace ME
open PySem PySem.Spec PyProof.Rows L2 NdefX MM
section
variable {P : Program} {w : World} {K : PySem.W.Frag} {mg : Str → Option Value} {base : Heap} {k : Nat} {C fI cA cd : Addr} {qual : Str} {st : Stmt} {fd : FuncData} {self p f : Str} {e1 : Expr} {p0 p1 p2 p3 p4 q1 q2 q3 q4 : Pos} {ar : Arg} {CX : CXT}
theorem init_one (XI : XInit P K C fI qual st cA cd fd) (S : NScope [self, p, (Str.ofString "__class__")] [self, p] [(Str.ofString "__class__")] (C8.fnScope st)) (hm : mg "super" = none)
    (hks : (C8.fnScope st).names.lookup (Str.ofString "super") = some .globalImplicit) (hkc : (C8.fnScope st).names.lookup (Str.ofString "__class__") = some .free)
    (har : ((C8.fnArgs st).posonlyargs ++ (C8.fnArgs st).args).head? = some ar) (hs : ar.arg = self)
    (hbody : C8.fnBody st = [.Expr (.Call (.Attribute (.Call (.Name (Str.ofString "super") p0) [] [] p1) (Str.ofString "__init__") p2) [e1] [] p3) p4, .Assign [.Attribute (.Name self q1) f q2] (.Name p q3) q4])
    (hno : PySem.W.findIn K (.ref C) f = some none)
    (hmsg : ∀ X : Cx, X.N = [self, p, (Str.ofString "__class__")] → X.env.scope = C8.fnScope st → ∃ t : TE, PE X e1 t ∧ ∀ (σ : L2.St) (y : V), σ[1]? = some (some y) → okV y = true → Msg t σ)
    (hst : ∀ (env : Env), starEach [e1] env = (false, eval e1 env) :: starEach [] env)
    (hint : ∀ (env : Env), swapsWith (.Call (.Attribute (.Call (.Name (Str.ofString "super") p0) [] [] p1) (Str.ofString "__init__") p2) [e1] [] p3) none p4.line env = pure false)
    (hcall : ∀ (env : Env), ∃ pl : Sem Bool, eval (.Call (.Attribute (.Call (.Name (Str.ofString "super") p0) [] [] p1) (Str.ofString "__init__") p2) [e1] [] p3) env = (do
      let ov ← attributeBase (.Call (.Name (Str.ofString "super") p0) [] [] p1) (Str.ofString "__init__") env (eval (.Call (.Name (Str.ofString "super") p0) [] [] p1) env)
      standAt p2.atName
      let (f, first) ← holding [ov] (getMethod ov (Str.ofString "__init__") pl)
      callWith p3 f first (backTo p3 (starEach [e1] env)) []))
    (d1 : (self == ("__debug__" : Str)) = false) (d2 : (self == ("__classdict__" : Str)) = false) (d3 : (p == ("__debug__" : Str)) = false) (d4 : (p == ("__classdict__" : Str)) = false) :
    FnOk P w K mg base CX (k + 1) fI fd [self, p] (spI C [f]) := by
  have l1 : (C8.fnScope st).names.lookup self = some .local := S.par self (by simp)
  have l2 : (C8.fnScope st).names.lookup p = some .local := S.par p (by simp)
  refine init_fn XI S hm hks hkc har (by rw [hs]; rfl) (by rw [hs]; exact l1) hbody (fun vs H Q E ⟨a, ys, e, el, _⟩ => by rw [e, List.length_cons, el]; rfl) (fun A outer s H vs Q E _ ⟨a, ys, e, el, ok, ea, q⟩ => ?_) hst (fun _ => rfl) hint hcall
  obtain ⟨y, rfl⟩ : ∃ y, ys = [y] := by
    match ys, el with
    | [y], _ => exact ⟨y, rfl⟩
  subst e
  obtain ⟨t, ht, hm2⟩ := hmsg (ncx CX P w K mg base [self, p, (Str.ofString "__class__")] (nfI qual st cA cd) fI A outer s H E) rfl rfl
  refine ⟨a, _, _, rfl, ea, pa_cons ht pa_nil (hst _), pss_one (ps_ost (pe_var (i := 0) rfl (.inl l1) d1 d2) (pe_var (i := 1) rfl (.inl l2) d3 d4)), ?_⟩
  have oy : okV y = true := by simpa using ok
  refine hm2 (startF [self, p, (Str.ofString "__class__")] [.ref a, y] [none]) y rfl oy H _ fun v => ?_
  refine ⟨by simp, ea, y, rfl, .ref a, rfl, a, C, rfl, XI.T, hno, .inl ⟨ea, fun dx hd na => ?_⟩⟩
  exact q dx hd na
end
end ME
namespace MM
open PySem PySem.Spec PyProof.Rows L2 ME
def okD : D → Bool
  | .int i => decide (i.natAbs.log2 < 1920)
  | .str s => decide (s.length ≤ 100000)
  | _ => false
def mRaise (c : Str) (fl : List Str) (ms : MA) : MSt := fun δ h => (ms δ h).st δ fun ds h1 => if ds.length = fl.length ∧ ds.all okD = true then .exc c ((fl.zip ds).reverse) δ h1 else .stuck
theorem okD_ok {K L H} {d : D} {v : V} (q : Rep K L H d v) (h : okD d = true) : okV v = true := by
  cases d with
  | int i => unfold Rep at q; subst q; exact h
  | str s => unfold Rep at q; subst q; exact h
  | _ => cases h
theorem okDs_ok {K L H} : ∀ {ds : List D} {vs : List V}, RepL K L H ds vs → ds.all okD = true → vs.all okV = true
  | [], _, w, _ => by rw [w.nil_inv]; rfl
  | d :: ds, _, w, h => by
    obtain ⟨v, vs, rfl, q, w2⟩ := w.cons_inv
    rw [List.all_cons, Bool.and_eq_true] at h
    rw [List.all_cons, okD_ok q h.1, okDs_ok w2 h.2]; rfl
theorem RepF.app {K L H} : ∀ {a b : List (Str × D)} {x y : List (Str × V)}, RepF K L H a x → RepF K L H b y → RepF K L H (a ++ b) (x ++ y)
  | [], _, _, _, e, h => by
    have e : _ = [] := e
    rw [e]; exact h
  | d :: a, b, _, y, ⟨v, vs, e, q, w⟩, h => by rw [e]; exact ⟨v, vs ++ y, rfl, q, RepF.app w h⟩
theorem repF_rev {K L H} : ∀ {fl : List Str} {ds : List D} {vs : List V}, RepL K L H ds vs → RepF K L H ((fl.zip ds).reverse) ((fl.zip vs).reverse)
  | [], _, _, _ => rfl
  | _ :: _, [], _, w => by rw [w.nil_inv]; rfl
  | f :: fl, d :: ds, _, w => by
    obtain ⟨v, vs, rfl, q, w2⟩ := w.cons_inv
    show RepF K L H (((f, d) :: fl.zip ds).reverse) (((f, v) :: fl.zip vs).reverse)
    rw [List.reverse_cons, List.reverse_cons]
    exact RepF.app (repF_rev w2) ⟨v, [], rfl, q, rfl⟩
section
variable {X : Cx} {CY : CXT} {x : Str} {C fI : Addr} {k : Nat} {fd : FuncData} {ps : List Str} {sp : Sp} {p pos : Pos} {e : Expr} {es : List Expr} {ta : TA}
theorem pmkN (T : OexC X.K C) (iC : PySem.W.findIn X.K (.ref C) "__init__" = some (some (.ref fI))) (tI : PySem.W.typeIn X.K (.ref fI) = some (.type "function")) (F1 : FnOk X.prog X.w X.K X.mg X.base CY k fI fd ps sp) (room : Room (k + 1) X.A)
    (bi : Binds X.K fd ps []) (out : Passes CY X (fun _ _ _ => False)) (hg : Gl X x) (hm : X.mg x = some (.ref C)) (ha : PA X (e :: es) ta)
    (hdb : (x == ("__debug__" : Str)) = false) (he : starEach (e :: es) X.env = (false, eval e X.env) :: starEach es X.env) (hpl : (backTo pos (starEach es X.env)).any (·.1) = false) :
    L2N.PMk X (.Call (.Name x p) (e :: es) [] pos) (tMkO C sp [] ta) := fun pins s σ H Q I want => by
  obtain ⟨z1, z2, z3, z4, ml, z6, z7, z8, z9, z10, z11, z12, z13, z14, z15, at_, good⟩ := T.cls
  refine wpAny_Call_Name_kw (ld_glob I hg hm (PySem.W.callWith_K (h₀ := X.base) I.ok.mod.kin T.kC (thn (ha.run pos pins s σ H _ I want) fun us s1 got => ?_) he hpl) hdb)
  obtain ⟨vs, H1, I1, rv, small, more⟩ := got
  refine ⟨I1.kIn, ?_⟩
  show wpAny _ _ (call (.ref C) us) _ _ _
  obtain ⟨G, gs, dr, tk, os⟩ := s1
  obtain ⟨a, ea⟩ : ∃ a, a = G.objs.size + 1 := ⟨_, rfl⟩
  have big : G.objs.size ≤ a := by omega
  have none1 : H1 a = none := I1.hok.fresh big
  have ask := more a none1
  rw [List.append_nil] at ask
  obtain ⟨G2, eG2⟩ : ∃ G2, G2 = (G.push (PySem.W.kdv_tup us)).push (PySem.HandSPX.excO C G.objs.size) := ⟨_, rfl⟩
  have up : ∀ b o, G.get? b = some o → G2.get? b = some o := fun b o q => by
    rw [eG2]
    exact Heap.get?_push_of_some _ (Heap.get?_push_of_some _ q)
  have mine : G2.get? a = some (PySem.HandSPX.excO C G.objs.size) := by
    rw [eG2, ea]
    heap_get
  have I2 := I1.laid (h' := G2) (t' := tk) (a := a) (o := exo a C none) up big (exo_ok mine)
  have r2 : Vals (V.ref a :: vs) (Value.ref a :: us) := .cons rfl rv
  have cnt : (Value.ref a :: us).length = ps.length := r2.length.symm.trans (F1.len _ _ _ _ ask)
  have fits : us.length ≤ sizeLine := by
    have := Paired.length rv
    rw [sizeLine_eq]
    omega
  have bnd := bi ⟨G2, gs, dr, tk, os⟩ (Value.ref a :: us) I2.kIn (by rw [List.append_nil]; exact cnt)
  rw [List.append_nil] at bnd
  have body := F1.run _ X.stack _ _ ⟨Value.ref a :: us, []⟩ (Value.ref a :: us) _ _ (fun _ _ _ => False) (room.make C us []) (I2.env0.make C us []) bnd r2 ask
  rw [ea, eG2] at body
  refine wpAny_call (PySem.HandSPX.call_own F.excBase_ValueError (fun Y => PySem.HandSPX.refsVE_contains Y ml good) (I1.kIn _ _ at_) (PySem.W.looks_findIn I1.kIn iC) (fun self => PySem.W.bind_fn I1.kIn self tI) fits (codeAny_mono body fun r s' fin => ?_))
  match r, fin with
  | .error er, fin => exact out pins σ _ _ er s' (by rw [ea, eG2] at I2; exact I2) fin
  | .ok (.ret u), fin =>
    obtain ⟨v, H2, os2, bare2, un2, hok2, rv2, ev, d, fs, e1, e2, e3, q2⟩ := fin
    subst ev
    obtain ⟨h2, g2, d2, t2, os'⟩ := s'
    rw [eG2] at up
    obtain ⟨t0, GG, J, kG, ge, hoe, na⟩ := mk_end0 (d2 := d2) (t2 := t2) I1 (Nat.le_succ _) up un2 hok2 os2 bare2 e1 e2 e3
    exact ⟨rv2, _, _, _, ⟨GG, g2, d2, t2, os'⟩, _, .ref C, some d, rfl, J, kG, ge, hoe, ⟨rfl, rfl, fun vs q => by cases q; rfl⟩, rfl, rfl, na, rfl, bare2, raises_own T.exC T.tyC, q2⟩
end
section
variable {X : Cx} {W : WX} {pos p pos2 : Pos} {e : Expr} {es : List Expr} {mas : MA}
theorem psm_raise {c : Str} {C fI : Addr} {fd : FuncData} {ps fl : List Str} {k : Nat} (hc : X.calm = true) (tk : L2N.Takes X W) (T : OexC X.K C) (hC : PySem.W.nsIn X.K mainGlobals c = some (some (.ref C)))
    (iC : PySem.W.findIn X.K (.ref C) "__init__" = some (some (.ref fI))) (tI : PySem.W.typeIn X.K (.ref fI) = some (.type "function")) (F1 : FnOk X.prog X.w X.K X.mg X.base (L2N.CX X.prog X.w) k fI fd ps (spI C fl)) (hr : Room (k + 1) X.A) (hb : Binds X.K fd ps [])
    (hg : Gl X c) (hm : X.mg c = some (.ref C)) (hl : fl.length ≤ 1000) (ha : PAM X W (e :: es) mas)
    (hdb : (c == ("__debug__" : Str)) = false := by decide) (he : starEach (e :: es) X.env = (false, eval e X.env) :: starEach es X.env := by rfl) (hpl : (backTo pos (starEach es X.env)).any (·.1) = false := by rfl) :
    PSM X W (.Raise (some (.Call (.Name c p) (e :: es) [] pos)) none pos2) (mRaise c fl mas) := by
  have h0 := L2N.ps_raise (pos := pos2) hc tk (pmkN (p := p) (pos := pos) T iC tI F1 hr hb (fun _ _ _ _ _ _ _ q => (no_exc q).elim) hg hm ha hdb he hpl)
  refine PS.imp h0 fun D σ H ⟨L, h, δ, r0, s, a⟩ => ?_
  show tMkO C (spI C fl) [] (tA X.K W mas) σ H fun cls d H' => W cls d σ H'
  refine ⟨L, h, δ, r0, s, Ans.imp (AnsS.bind (rp := RepL X.K) s a) fun vs H1 ⟨L1, h1, ds, x1, r1, p1, s1, a1⟩ => ?_⟩
  by_cases z : ds.length = fl.length ∧ ds.all okD = true
  · rw [if_pos z] at a1
    have lv : vs.length = fl.length := by rw [← p1.length]; exact z.1
    refine ⟨by omega, fun a ha' => ?_⟩
    rw [List.append_nil]
    refine ⟨a, vs, rfl, lv, okDs_ok p1 z.2, upd_same, fun dx hd na => ?_⟩
    rw [upd_ne na] at hd
    refine ⟨rfl, dx, (fl.zip vs).reverse, upd_same, by rw [upd_ne na, upd_same], hd, ?_⟩
    have hH : upd (del (upd (upd (upd H1 a (exo a C none)) dx (exd dx ((fl.zip vs).reverse))) a (exo a C (some dx))) a) dx (.xd ((fl.zip vs).reverse)) = upd H1 dx (.xd ((fl.zip vs).reverse)) := by
      funext b
      by_cases hbd : b = dx
      · rw [hbd, upd_same, upd_same]
      · rw [upd_ne hbd, upd_ne hbd]
        by_cases hba : b = a
        · rw [hba, del_same, ha']
        · rw [del_ne hba, upd_ne hba, upd_ne hbd, upd_ne hba]
    rw [hH]
    obtain ⟨x2, r2⟩ := r1.grow (H' := upd H1 dx (.xd ((fl.zip vs).reverse))) fun c o ec => by
      rw [upd_ne (fun z => by rw [z, hd] at ec; cases ec)]; exact ec
    exact a1 L1 _ σ dx _ x2 r2 (s1.mono x2) upd_same ((repF_rev p1).mono x2) (.ref C) ⟨C, rfl, hC⟩
  · rw [if_neg z] at a1
    exact a1.elim
end
end MM
namespace ME
open PySem PySem.Spec PyProof.Rows L2 NdefX MM
structure XAt (P : Program) (w : World) (K : PySem.W.Frag) (mg : Str → Option Value) (c : Str) (fl : List Str) : Prop where
  ex : ∃ (C fI : Addr) (fd : FuncData) (ps : List Str), OexC K C ∧ PySem.W.nsIn K mainGlobals c = some (some (.ref C)) ∧ mg c = some (.ref C) ∧ PySem.W.findIn K (.ref C) "__init__" = some (some (.ref fI)) ∧ PySem.W.typeIn K (.ref fI) = some (.type "function") ∧
    L2.Binds K fd ps [] ∧ ∀ base, FnOk P w K mg base (L2N.CX P w) 1 fI fd ps (spI C fl)
section
variable {X : Cx} {W : WX} {pos p pos2 : Pos} {e : Expr} {es : List Expr} {mas : MA} {n : Nat} {c : Str} {fl : List Str}
theorem psm_raiseX (x : XAt X.prog X.w X.K X.mg c fl) (hc : X.calm = true) (tk : L2N.Takes X W) (hr : Room n X.A) (hn : 2 ≤ n) (hl : fl.length ≤ 1000) (hg : Gl X c) (ha : PAM X W (e :: es) mas)
    (hdb : (c == ("__debug__" : Str)) = false := by decide) (he : starEach (e :: es) X.env = (false, eval e X.env) :: starEach es X.env := by rfl) (hpl : (backTo pos (starEach es X.env)).any (·.1) = false := by rfl) :
    PSM X W (.Raise (some (.Call (.Name c p) (e :: es) [] pos)) none pos2) (mRaise c fl mas) := by
  obtain ⟨C, fI, fd, ps, T, hC, hm, iC, tI, hb, F⟩ := x.ex
  exact psm_raise hc tk T hC iC tI (F X.base) (hr.mono hn) hb hg hm hl ha hdb he hpl
end
theorem bindsX {K : PySem.W.Frag} {fd : FuncData} {ps : List Str} (h : ∀ us : List Value, us.length = ps.length → bindArgs fd ⟨us, []⟩ = pure (ps.zip us)) : L2.Binds K fd ps [] := L2.Binds.all h
end ME
namespace MM
open PySem PySem.Spec PyProof.Rows L2
end MM
set_option maxHeartbeats 2000000
namespace MM
open PySem PySem.Spec PyProof.Rows L2
open Classical in
section
variable {K : PySem.W.Frag} {L : TL} {H : Hp}
end
section
variable {X : Cx} {W : WX} {x n : Str} {cE : Value} {i : Nat} {body suite : List Stmt} {b₀ : Stmt} {np pos pos' : Pos} {mb : MSt} {hit : Str → Option Bool} {ms : Addr → Addr → Str → List (Str × D) → MSt}
end
end MM
namespace MM
open PySem PySem.Spec PyProof.Rows L2
section
variable {X : Cx} {W : WX} {a C dd : Addr} {oe : Obj} {pn : List (Addr × Obj)} {e : Expr} {te : TE} {me : ME} {pos : Pos} {n c : Str}
end
end MM
namespace MM
open PySem PySem.Spec PyProof.Rows L2
section
variable {X : Cx} {W : WX} {a D dd Da : Addr} {oe : Obj} {pn : List (Addr × Obj)} {e : Expr} {te : TE} {me : ME} {pos p p2 : Pos} {c2 : Str} {b : Bool}
end
end MM
namespace MM
open PySem PySem.Spec PyProof.Rows L2
def FnMH (P : Program) (w : World) (K : PySem.W.Frag) (mg : Str → Option Value) (base : Heap) (k : Nat) (f : Addr) (fd : FuncData) (ps : List Str) (m : List D → MH → R D) : Prop := L2H.FnH P w K mg base (L2N.CX P w) k f fd ps (spOf K m)
section
variable {P : Program} {w : World} {K : PySem.W.Frag} {mg : Str → Option Value} {base : Heap}
end
section
variable {X : Cx} {W : WX} {pos : Pos} {e : Expr} {es : List Expr} {mas : MA}
end
end MM
namespace MM
open PySem PySem.Spec PyProof.Rows L2
theorem FnMH.mono {P : Program} {w : World} {K : PySem.W.Frag} {mg : Str → Option Value} {base : Heap} {j k : Nat} {f : Addr} {fd : FuncData} {ps : List Str} {m : List D → MH → R D} (F : FnMH P w K mg base j f fd ps m) (h : j ≤ k) : FnMH P w K mg base k f fd ps m :=
  ⟨F.len, fun A outer s H args us vs Q E p hr => F.run A outer s H args us vs Q E p (hr.mono h)⟩
structure XTry (K : PySem.W.Frag) (mg : Str → Option Value) (c : Str) (fl : List Str) (C : Addr) : Prop where
  at' : PySem.W.nsIn K mainGlobals c = some (some (.ref C))
  mg' : mg c = some (.ref C)
  xf : XfC K C
  no : ∀ f ∈ fl, PySem.W.findIn K (.ref C) f = some none
  xc : ExcC K C
  ty : PySem.W.typeIn K (.ref C) = some (.type "type")
  own : PySem.W.subIn K (.ref C) (.ref C) = some true
def hitOne (c : Str) : Str → Option Bool := fun x => if x = c then some true else none
section
variable {X : Cx} {W : WX} {n c : Str} {fl : List Str} {C : Addr} {i : Nat} {body suite : List Stmt} {b₀ : Stmt} {np pos pos' : Pos} {mb : MSt} {ms : Addr → Addr → List (Str × D) → MSt}
end
end MM
namespace MEn
open PySem PySem.Spec PyProof.Rows L2
def Ity (x : Str) : It where
  go i _ := i < x.cps.size
  yld i H v H' := ∃ T c, v = .ref T ∧ H T = none ∧ H' = upd H T (.tup [.int (i : Nat), .str ⟨#[c]⟩]) ∧ x.cps[i]? = some c
  stop i _ := x.cps.size ≤ i
structure EnS (x : Str) (t : Tok) (e it : Addr) (i : Nat) (h : Heap) : Prop where
  cnt : ∃ old, IsEnum h e it (i : Int) old
  txt : h.IsStrIter it (strIterType x) x t i
  two : e ≠ it
section
variable {x : Str} {t : Tok} {e it : Addr} {i : Nat} {h h' : Heap}
theorem EnS.both (S : EnS x t e it i h) {p : Addr → Prop} (pe : p e) (pt : p it) : ∀ b ∈ [e, it], p b := fun b hb => by
  cases hb with
  | head => exact pe
  | tail _ hb => cases hb with
    | head => exact pt
    | tail _ hb => cases hb
theorem EnS.stay (S : EnS x t e it i h) (k : ∀ b ∈ [e, it], ∀ o, h.get? b = some o → h'.get? b = some o) : EnS x t e it i h' := by
  have ke := k e (.head _)
  have kt := k it (.tail _ (.head _))
  obtain ⟨old, q⟩ := S.cnt
  obtain ⟨o, q1, q2⟩ := S.txt
  exact ⟨⟨old, ke _ q⟩, ⟨o, kt o q1, q2⟩, S.two⟩
theorem EnS.objs (S : EnS x t e it i h) : ∀ b ∈ [e, it], ∃ o, h.get? b = some o ∧ ∀ v, o.data ≠ .cell v := by
  obtain ⟨old, q⟩ := S.cnt
  obtain ⟨o, q1, _, q3⟩ := S.txt
  refine S.both ⟨_, q, fun v z => ?_⟩ ⟨o, q1, fun v z => ?_⟩
  · cases z
  · rw [q3] at z; cases z
theorem EnS.old (S : EnS x t e it i h) : ∀ b ∈ [e, it], b < h.objs.size := fun b hb => let ⟨_, q, _⟩ := S.objs b hb; Heap.lt_size q
variable {X : Cx} {pins : List (Addr × Obj)} {σ : L2.St} {H : Hp} {s : Shared} {E : Value → Shared → Prop} {elts : List Expr} {kk : Nat} {tpos : Pos}
theorem EnS.turn (S : EnS x t e it i s.heap) (I : Inv X pins σ H s) (hc : X.calm = true) (hf : ∀ b ∈ [e, it], FpOk X pins H b) (hg : i < x.cps.size) :
    wpAny (model X.prog X.w) X.A (pyNext (.ref e)) (fun r s1 => ∃ u, r = some u ∧ wpAny (model X.prog X.w) X.A (letOwnedTupleGo (.Tuple elts kk tpos) (.ref e) u) (fun _ s2 => ∃ y H', Inv X pins σ H' s2 ∧ RelV y u ∧ (Ity x).yld i H y H' ∧ EnS x t e it (i + 1) s2.heap ∧ ∀ b ∈ [e, it], H' b = none) E s1) E s := by
  obtain ⟨old, q⟩ := S.cnt
  have young := S.old
  have inList := List.mem_cons_self (a := e) (l := [it])
  refine wpAny_pyNext_enum_itemD (Draws.text (A := X.A.in1) (I.ok.hd hc) it x t) q S.txt hg S.two (fun z => S.two (List.mem_singleton.mp z)) ?_
  rintro u h1 tk ⟨c, tu, hcx, rfl⟩ ho txt1 pair1 - kept1
  refine ⟨_, rfl, wpAny_letOwnedTupleGo_enum (s := { s with heap := h1, toks := tk + 1 }) ho fun h2 cnt2 sb => ?_⟩
  have pair2 := (sb.2 _ (Nat.ne_of_gt (young e inList))).trans pair1
  have fresh : H s.heap.objs.size = none := I.hok.fresh (Nat.le_refl _)
  have rest : ∀ b ob, b ∉ [e, it] → s.heap.get? b = some ob → h2.get? b = some ob := fun b ob hb z => by
    have b1 : b ≠ e := fun y => hb (y ▸ inList)
    have b2 : b ≠ it := fun y => hb (by rw [y]; exact .tail _ (.head _))
    rw [sb.2 b b1]
    exact kept1 b ob b1 b2 z
  have J := I.turnedNew (t' := tk + 1) (ch := [e, it]) rest hf (Nat.le_refl _) (show L2.ObjOk X.prog X.w (upd H s.heap.objs.size (.tup [.int (i : Nat), .str ⟨#[c]⟩])) h2 s.heap.objs.size (.tup [.int (i : Nat), .str ⟨#[c]⟩]) from
    ⟨show 2 ≤ sizeLine by decide, [.int (i : Int) tk, .str ⟨#[c]⟩ tu], .cons ⟨tk, rfl⟩ (.cons ⟨tu, rfl⟩ .nil), _, pair2, rfl, _, rfl⟩)
  obtain ⟨o, q1, q2⟩ := txt1
  refine ⟨.ref s.heap.objs.size, _, J, rfl, ⟨_, c, rfl, fresh, rfl, hcx⟩, ⟨⟨_, by rw [Int.natCast_succ]; exact cnt2⟩, ⟨o, (sb.2 it S.two.symm).trans q1, q2⟩, S.two⟩, fun b hb => ?_⟩
  rw [upd_ne (Nat.ne_of_lt (young b hb))]
  exact (hf b hb).1
theorem EnS.over (S : EnS x t e it i s.heap) (I : Inv X pins σ H s) (hc : X.calm = true) (hf : ∀ b ∈ [e, it], FpOk X pins H b) (hg : x.cps.size ≤ i) :
    wpAny (model X.prog X.w) X.A (pyNext (.ref e)) (fun r s1 => r = none ∧ Inv X pins σ H s1) E s := by
  obtain ⟨old, q⟩ := S.cnt
  have txt := S.txt
  obtain ⟨n0, n1, _, n3, n4, n5⟩ := hf it (.tail _ (.head _))
  have none' : x.cps[i]? = none := Array.getElem?_eq_none hg
  have leave : ∀ (h' : Heap) (y : Addr), Heap.ExtBut it s.heap h' → (∃ o, h'.get? y = some o ∧ o.cls = .type "StopIteration") →
      wpAny (model X.prog X.w) X.A (isInstance (.ref y) (.type "StopIteration") >>= fun c => if c = true then pure (none : Option Value) else throw (Value.ref y)) (fun r s1 => r = none ∧ Inv X pins σ H s1) E { s with heap := h' } := by
    rintro h' y eb ⟨o, z1, z2⟩
    exact wpAny_bind (wpAny_isInstance (T := "StopIteration") ⟨o, z1, z2⟩ isSubtype_stop (wpAny_pure ⟨rfl, I.turned (t' := s.toks) eb n0 n1 n3 n4 n5⟩))
  have ty : s.TypeIs (.ref e) "enumerate" := ⟨_, q, rfl⟩
  unfold pyNext
  refine wpAny_bind (wpAny_attempt (wpAny_callSpecial?_slot ty F.slot_enumerate_next (wpAny_call_entry F.slot_enumerate_next ty F.entry_enumerate_next ?_ (F.args_enumerate_next_1 _))))
  refine wpAny_bind (m := field (.ref e) 2) (wpAny_field q rfl (x := .ref it) rfl ?_)
  unfold strIterType at txt
  split at txt
  · exact wpAny_bind (wpAny_nextOf_ascii_end (I.ok.hd hc) txt none' leave)
  · exact wpAny_bind (wpAny_nextOf_wide_end (I.ok.hd hc) txt none' leave)
end
theorem turn_enumY {P : Program} {w : World} {K : PySem.W.Frag} {elts : List Expr} {kk : Nat} {tpos : Pos} (x : Str) (t : Tok) (e it : Addr) : Turn P w K (.Tuple elts kk tpos) (Ity x) [e, it] e (EnS x t e it) where
  mem := .head _
  obj := fun _ _ S => S.objs
  keep := fun _ _ _ S => S.stay
  item := by rintro X rfl rfl rfl hc i pins s σ H E I hf S hg; exact S.turn I hc hf hg
  done := by rintro X rfl rfl rfl hc i pins s σ H E I hf S hg; exact S.over I hc hf hg
  self := fun _ _ _ _ _ S k => by obtain ⟨_, q⟩ := S.cnt; exact wpAny_pyIter_enum q k
def iEnumY (ta : TA) : TI := fun σ H R => ta σ H fun vs H1 => ∃ x, vs = [.str x] ∧ R (Ity x) H1
theorem pi_enumY {X : Cx} {a : Expr} {ta : TA} {p pos tpos : Pos} {elts : List Expr} {kk : Nat} (hg : Gl X "enumerate") (hm : X.mg "enumerate" = none) (ha : PA X [a] ta) (hs : starEach [a] X.env = [(false, eval a X.env)] := by rfl) :
    PI X (.Tuple elts kk tpos) (.Call (.Name "enumerate" p) [a] [] pos) (iEnumY ta) where
  run pins s σ H R I q := by
    refine Call_ (ld_blt I hg hm boot_enumerate (PyProof.Rows.callWith_type1 (thn (ha.run pos pins s σ H _ I q) ?_) hs rfl))
    rintro us s1 ⟨_, H1, I1, rx, x, rfl, qx⟩
    obtain ⟨u, rfl, ru⟩ := rx.one
    obtain ⟨t, rfl⟩ := ru
    refine call_enumerate_str fun h' he hit _ hk => wpAny_pyIter_enum he ⟨s1.heap.objs.size + 1, _, _, Ity x, H1, rfl, I1.kept (t' := s1.toks) hk, turn_enumY x t (s1.heap.objs.size + 1) s1.heap.objs.size, ⟨⟨.none, he⟩, hit, Nat.succ_ne_self _⟩, ?_, qx⟩
    have ok : ∀ n, FpOk X pins H1 (s1.heap.objs.size + n) := fun n => I1.fpOk (Nat.le_add_right _ n) (I1.hok.fresh (Nat.le_add_right _ n))
    exact EnS.both (x := x) (t := t) (i := 0) ⟨⟨.none, he⟩, hit, Nat.succ_ne_self _⟩ (ok 1) (ok 0)
end MEn
namespace MM
open PySem PySem.Spec PyProof.Rows L2
section
variable {X : Cx} {W : WX} {pos : Pos} {tg a e : Expr} {es : List Expr} {mas : MA}
def fEnum2 (ds : List D) (h : MH) : R Src := match ds with
  | [.str s] => .ok ⟨List.zipWith (fun x y => .tup [x, y]) ((List.range s.cps.size).map fun (i : Nat) => .int i) (charsD s), fun _ => True⟩ h
  | ds => fEnum ds h
theorem tI_enum {K : PySem.W.Frag} {mas : MA} {σ : L2.St} {H : Hp} {R : L2.It → Hp → Prop} (t : tI K W (fun δ h => (mas δ h).bnd fEnum) σ H R) : iEnum K (tA K W mas) σ H R := by
  refine tI_args (G := fun vs H1 R => ∃ a xs, vs = [.ref a] ∧ SqL K H1 a xs ∧ R (Ite K a) H1) (fun L H h ds vs S Q r w e k => ?_) (fun ds h => ?_) t
  · unfold fEnum at e
    split at e
    · rename_i d
      obtain ⟨v, rfl, q⟩ := w.one
      cases e1 : lstD d h with
      | none => simp only [e1] at e; cases e
      | some es =>
        simp only [e1] at e
        cases e
        obtain ⟨p, xs, rfl, s, w2⟩ := lstD_of r q e1
        refine ⟨p, xs, rfl, s, k _ (Trod.pair (n := es.length) (by simp) rfl (fun L' H' h' i x r' e' hi => ?_) (fun L' H' h' x r' e' => ?_) fun L' H' h' i v H'' x r' e' hi hy => ?_)⟩ <;>
          obtain ⟨p', ys, ep, s', w3⟩ := lstD_of r' (q.mono x) e' <;> cases ep
        · obtain ⟨u, e5, _⟩ := w3.get (List.getElem?_eq_getElem hi)
          exact ⟨ys, u, s', e5⟩
        · exact ⟨ys, s', by rw [w3.length]; exact Nat.le_refl _⟩
        · obtain ⟨T, x, h1, h2, h3, h4⟩ := hy
          obtain ⟨c, e6, q6⟩ := w3.get' (h4 ys s')
          exact ⟨T, _, x, h1, h2, h3, ⟨.int i, by rw [List.getElem?_map, List.getElem?_range hi]; rfl, rep_int⟩, c, e6, q6⟩
    · cases e
  · unfold fEnum
    split
    · split
      · exact .inl ⟨_, rfl⟩
      · exact .inr rfl
    · exact .inr rfl
theorem pim_enum2 {tpos p pos : Pos} {elts : List Expr} {kk : Nat} (hg : Gl X "enumerate") (hm : X.mg "enumerate" = none) (ha : PAM X W [e] mas) (hs : starEach [e] X.env = [(false, eval e X.env)] := by rfl) :
    PIM X W (.Tuple elts kk tpos) (.Call (.Name "enumerate" p) [e] [] pos) (fun δ h => (mas δ h).bnd fEnum2) := by
  refine PI.imp ((pi_enum hg hm ha hs).or (MEn.pi_enumY hg hm ha hs)) fun σ H R t => ?_
  obtain ⟨L, h, δ, r, s, q⟩ := t
  have q : AnsI X.K W σ L H ((mas δ h).bnd fEnum2) R := q
  cases em : mas δ h with
  | stuck => rw [em] at q; exact q.elim
  | exc c fs h1 =>
    rw [em] at q
    exact .inl ⟨L, h, δ, r, s, by rw [em]; exact q⟩
  | ok ds h1 =>
    rw [em, MM.R.bnd_ok] at q
    by_cases z : ∃ t, ds = [D.str t]
    · obtain ⟨t, rfl⟩ := z
      refine .inr ⟨L, h, δ, r, s, ?_⟩
      rw [em]
      intro L' H' vs x r' w
      obtain ⟨v, rfl, q1⟩ := w.one
      refine ⟨t, by rw [rep_str_inv q1], q L' H' _ x r' (Trod.pair (n := t.cps.size) (by simp) (by simp [charsD]) (fun _ _ _ i _ _ _ hi => hi) (fun _ _ _ _ _ _ => Nat.le_refl _) fun L' H' h' i v H'' x r' e' hi hy => ?_)⟩
      obtain ⟨T, c, h1, h2, h3, h4⟩ := hy
      refine ⟨T, _, _, h1, h2, h3, ⟨.int i, by rw [List.getElem?_map, List.getElem?_range hi]; rfl, rep_int⟩, .str ⟨#[c]⟩, ?_, rep_str⟩
      unfold charsD
      rw [List.getElem?_map, Array.getElem?_toList, h4]; rfl
    · have e : fEnum2 ds h1 = fEnum ds h1 := by
        unfold fEnum2
        split
        · rename_i t
          exact absurd ⟨t, rfl⟩ z
        · rfl
      rw [e] at q
      exact .inl (tI_enum ⟨L, h, δ, r, s, by show AnsI X.K W σ L H ((mas δ h).bnd fEnum) R; rw [em]; exact q⟩)
end
end MM
namespace MEn
open PySem PySem.Spec PyProof.Rows L2
set_option maxHeartbeats 1000000 in
theorem made1 {v : Value} {o : Obj} {J : Heap → Prop} (B : Begins v o J) : Meets (Builtin.«enumerate.__new__» ⟨[.type "enumerate", v], []⟩) (fun _ R s => J s.heap ∧
      R (.ok (.ret (.ref (s.heap.push o).objs.size))) { s with heap := (s.heap.push o).push { cls := .type "enumerate", data := .fields #[.none, .bool false, .ref s.heap.objs.size, rawInt 0, .none, .none] } }) :=
  .of_wp fun prog w A R z two => by
    obtain ⟨hp, g, d, tk, os⟩ := z
    obtain ⟨j1, two⟩ := two
    have same := sub_enumerate
    have first : ∀ {A' : Around} {E : Value → Shared → Prop} {Q : Value → Shared → Prop}, Q (.ref hp.objs.size) ⟨hp.push o, g, d, tk, os⟩ → wpAny (model prog w) A' (pyIter v) Q E ⟨hp, g, d, tk, os⟩ := fun q => B.iter prog w _ _ ⟨hp, g, d, tk, os⟩ _ j1 q
    wp_walk using first
    refine wpAny_stack_any fun _ => wpAny_pure ?_
    split
    · rename_i c _ _ _ _ _
      cases (c == Value.type "enumerate") <;> (wp_walk using first; exact ⟨_, rfl, two⟩)
    · wp_walk using first
      exact ⟨_, rfl, two⟩
section
variable {prog : Program} {w : World} {A : Around} {E : Value → Shared → Prop} {s : Shared}
theorem call1 {v : Value} {o : Obj} {J : Heap → Prop} {Q : Value → Shared → Prop} (B : Begins v o J) (j1 : J s.heap)
    (fin : ∀ h', IsEnum h' (s.heap.objs.size + 1) s.heap.objs.size 0 .none → h'.get? s.heap.objs.size = some o → (∀ b u, s.heap.get? b = some u → h'.get? b = some u) → Q (.ref (s.heap.objs.size + 1)) { s with heap := h' }) :
    wpAny (model prog w) A (call (.type "enumerate") [v]) Q E s := by
  refine callType_new F.called_enumerate (by decide) (F.typeCall_enumerate_1 _) (F.newCall_enumerate_1 _) (fun obj => F.args_object_init_2 obj _) F.entry_enumerate_new (made1 B) ⟨j1, ?_⟩
  have sz : (s.heap.push o).objs.size = s.heap.objs.size + 1 := Heap.size_push ..
  have en : ∀ u : Obj, u.isFreed = false → ((s.heap.push o).push u).get? (s.heap.objs.size + 1) = some u := fun u hu => by
    have := Heap.get?_push_size (s.heap.push o) (o := u) hu
    rw [sz] at this
    exact this
  show _ ∧ _
  rw [sz]
  have en1 := en { cls := .type "enumerate", data := .fields #[.none, .bool false, .ref s.heap.objs.size, rawInt 0, .none, .none] } rfl
  exact ⟨⟨_, en1, rfl⟩, fin _ en1 (Heap.get?_push_of_some _ (Heap.get?_push_size _ B.free)) fun b u x => Heap.get?_push_of_some _ (Heap.get?_push_of_some _ x)⟩
end
def Itu (K : PySem.W.Frag) (a : Addr) : It where
  go i H := ∃ (xs : List V) (x : V), SqT K H a xs ∧ xs[i]? = some x
  yld i H v H' := ∃ T x, v = .ref T ∧ H T = none ∧ H' = upd H T (.tup [.int (i : Nat), x]) ∧ ∀ xs, SqT K H a xs → xs[i]? = some x
  stop i H := ∃ xs : List V, SqT K H a xs ∧ xs.length = i
theorem not_same {h : Heap} {a b : Addr} {S T : String} (x : ∃ o, h.get? a = some o ∧ o.cls = .type S) (y : ∃ o, h.get? b = some o ∧ o.cls = .type T) (n : S ≠ T) : a ≠ b := fun z => by
  subst z
  obtain ⟨o, e1, c1⟩ := x
  obtain ⟨u, e2, c2⟩ := y
  rw [e1] at e2
  cases e2
  rw [c1] at c2
  exact n (Value.type.inj c2)
theorem turn_enumU {P : Program} {w : World} {K : PySem.W.Frag} {elts : List Expr} {kk : Nat} {tpos : Pos} (a e it : Addr) :
    Turn P w K (.Tuple elts kk tpos) (Itu K a) [e, it] e (fun i h => (∃ old, IsEnum h e it ((i : Nat) : Int) old) ∧ h.IsTupleIter it a i ∧ e ≠ it) where
  mem := .head _
  obj := fun _ _ ⟨⟨old, q⟩, ⟨o, q1, _, q3⟩, _⟩ b hb => by
    rcases List.mem_cons.mp hb with z | z
    · exact z ▸ ⟨_, q, fun v y => by cases y⟩
    · exact List.mem_singleton.mp z ▸ ⟨o, q1, fun v y => by rw [q3] at y; cases y⟩
  keep := fun _ _ _ ⟨⟨old, q⟩, q1, q2⟩ k => ⟨⟨old, k e (.head _) _ q⟩, q1.at fun o z => k it (.tail _ (.head _)) o z, q2⟩
  item := by
    rintro X rfl rfl rfl hc i pins s σ H E I hf ⟨⟨old, q⟩, hit, two⟩ ⟨xs, x, sq, hx⟩
    obtain ⟨its, rv, tp, _⟩ := I.tuple sq
    obtain ⟨u, hu, ru⟩ := rv.get hx
    have ie : ∃ o, s.heap.get? e = some o ∧ o.cls = .type "enumerate" := ⟨_, q, rfl⟩
    have ii : ∃ o, s.heap.get? it = some o ∧ o.cls = .type "tuple_iterator" := let ⟨o, z1, z2, _⟩ := hit; ⟨o, z1, z2⟩
    have ia : ∃ o, s.heap.get? a = some o ∧ o.cls = .type "tuple" := let ⟨o, z1, z2, _⟩ := tp; ⟨o, z1, z2⟩
    have le : e < s.heap.objs.size := Heap.lt_size q
    have lit : it < s.heap.objs.size := let ⟨_, z, _⟩ := hit; Heap.lt_size z
    have ea := not_same ie ia (by decide)
    refine wpAny_pyNext_enum_itemD (Draws.tuple (A := X.A.in1) (I.ok.hd hc) it a (not_same ia ii (by decide)) its.toArray) q ⟨hit, show s.heap.IsTuple a its.toArray from tp⟩ (by have := (List.getElem?_eq_some_iff.mp hu).1; simpa using this) two
      (fun z => by rcases List.mem_cons.mp z with y | y; exact two y; exact ea (List.mem_singleton.mp y)) ?_
    rintro u2 h1 tk px ho ⟨hit1, _⟩ pair1 - kept1
    have eu : u2 = u := by
      have px : its.toArray[i]? = some u2 := px
      rw [List.getElem?_toArray, hu] at px
      exact (Option.some.inj px).symm
    subst eu
    refine ⟨_, rfl, wpAny_letOwnedTupleGo_enum (s := { s with heap := h1, toks := tk + 1 }) ho fun h2 cnt2 sb => ?_⟩
    have pair2 := (sb.2 _ (Nat.ne_of_gt le)).trans pair1
    have rest : ∀ b ob, b ∉ [e, it] → s.heap.get? b = some ob → h2.get? b = some ob := fun b ob hb z => by
      have b1 : b ≠ e := fun y => hb (y ▸ .head _)
      have b2 : b ≠ it := fun y => hb (by rw [y]; exact .tail _ (.head _))
      rw [sb.2 b b1]
      exact kept1 b ob b1 b2 z
    have J := I.turnedNew (t' := tk + 1) (ch := [e, it]) rest hf (Nat.le_refl _) (show L2.ObjOk X.prog X.w (upd H s.heap.objs.size (.tup [.int (i : Nat), x])) h2 s.heap.objs.size (.tup [.int (i : Nat), x]) from
      ⟨show 2 ≤ sizeLine by decide, [.int (i : Int) tk, u2], .cons ⟨tk, rfl⟩ (.cons ru .nil), _, pair2, rfl, _, rfl⟩)
    refine ⟨.ref s.heap.objs.size, _, J, rfl, ⟨_, x, rfl, I.hok.fresh (Nat.le_refl _), rfl, fun ys hy => by rw [I.tuple_inj hy sq]; exact hx⟩, ⟨⟨_, by rw [Int.natCast_succ]; exact cnt2⟩, hit1.at fun o z => (sb.2 it two.symm).trans z, two⟩, fun b hb => ?_⟩
    have lb : b < s.heap.objs.size := by
      rcases List.mem_cons.mp hb with z | z
      · rw [z]; exact le
      · rw [List.mem_singleton.mp z]; exact lit
    rw [upd_ne (Nat.ne_of_lt lb)]
    exact (hf b hb).1
  done := by
    rintro X rfl rfl rfl hc i pins s σ H E I hf ⟨⟨old, q⟩, hit, two⟩ ⟨xs, sq, hl⟩
    obtain ⟨its, rv, tp, _⟩ := I.tuple sq
    have ii : ∃ o, s.heap.get? it = some o ∧ o.cls = .type "tuple_iterator" := let ⟨o, z1, z2, _⟩ := hit; ⟨o, z1, z2⟩
    have ia : ∃ o, s.heap.get? a = some o ∧ o.cls = .type "tuple" := let ⟨o, z1, z2, _⟩ := tp; ⟨o, z1, z2⟩
    obtain ⟨f0, f1, _, f3, f4, f5⟩ := hf it (.tail _ (.head _))
    have sz : its.toArray.size = i := by rw [List.size_toArray, ← rv.length, hl]
    subst sz
    exact wpAny_pyNext_enum_endD (Draws.tuple (A := X.A.in1) (I.ok.hd hc) it a (not_same ia ii (by decide)) its.toArray) q ⟨hit, show s.heap.IsTuple a its.toArray from tp⟩ fun h' eb => ⟨rfl, I.turned (t' := s.toks) (fun b o hb z => eb b o hb z) f0 f1 f3 f4 f5⟩
  self := fun _ _ _ _ _ ⟨⟨_, q⟩, _⟩ k => wpAny_pyIter_enum q k
def iEnumU (K : PySem.W.Frag) (ta : TA) : TI := fun σ H R => ta σ H fun vs H1 => ∃ a xs, vs = [.ref a] ∧ SqT K H1 a xs ∧ R (Itu K a) H1
theorem pi_enumU {X : Cx} {a : Expr} {ta : TA} {p pos tpos : Pos} {elts : List Expr} {kk : Nat} (hg : Gl X "enumerate") (hm : X.mg "enumerate" = none) (ha : PA X [a] ta) (hs : starEach [a] X.env = [(false, eval a X.env)] := by rfl) :
    PI X (.Tuple elts kk tpos) (.Call (.Name "enumerate" p) [a] [] pos) (iEnumU X.K ta) where
  run pins s σ H R I q := by
    refine Call_ (ld_blt I hg hm boot_enumerate (PyProof.Rows.callWith_type1 (thn (ha.run pos pins s σ H _ I q) ?_) hs rfl))
    rintro us s1 ⟨_, H1, I1, rx, x, xs, rfl, sq, qx⟩
    obtain ⟨u, rfl, ru⟩ := rx.one
    obtain rfl : u = Value.ref x := ru
    obtain ⟨its, rv, tp, _⟩ := I1.tuple sq
    refine call1 (begins_tuple x its.toArray) (show s1.heap.IsTuple x its.toArray from tp) fun h' he hit hk => wpAny_pyIter_enum he ⟨s1.heap.objs.size + 1, [s1.heap.objs.size + 1, s1.heap.objs.size], _, _, H1, rfl, I1.kept (t' := s1.toks) hk, turn_enumU x (s1.heap.objs.size + 1) s1.heap.objs.size, ⟨⟨.none, he⟩, ⟨_, hit, rfl, rfl⟩, Nat.succ_ne_self _⟩, fun b hb => ?_, qx⟩
    have ok : ∀ n, FpOk X pins H1 (s1.heap.objs.size + n) := fun n => I1.fpOk (Nat.le_add_right _ n) (I1.hok.fresh (Nat.le_add_right _ n))
    rcases List.mem_cons.mp hb with z | z
    · rw [z]; exact ok 1
    · rw [List.mem_singleton.mp z]; exact ok 0
end MEn
namespace MM
open PySem PySem.Spec PyProof.Rows L2
section
variable {X : Cx} {W : WX} {pos : Pos} {e : Expr} {mas : MA}
def fEnum3 (ds : List D) (h : MH) : R Src := match ds with
  | [.tup es] => .ok ⟨List.zipWith (fun x y => .tup [x, y]) ((List.range es.length).map fun (i : Nat) => .int i) es, fun _ => True⟩ h
  | ds => fEnum2 ds h
theorem pim_enum3 {tpos p pos : Pos} {elts : List Expr} {kk : Nat} (hg : Gl X "enumerate") (hm : X.mg "enumerate" = none) (ha : PAM X W [e] mas) (hs : starEach [e] X.env = [(false, eval e X.env)] := by rfl) :
    PIM X W (.Tuple elts kk tpos) (.Call (.Name "enumerate" p) [e] [] pos) (fun δ h => (mas δ h).bnd fEnum3) := by
  refine PI.imp ((pim_enum2 hg hm ha hs).or (MEn.pi_enumU hg hm ha hs)) fun σ H R t => ?_
  obtain ⟨L, h, δ, r, s, q⟩ := t
  have q : AnsI X.K W σ L H ((mas δ h).bnd fEnum3) R := q
  cases em : mas δ h with
  | stuck => rw [em] at q; exact q.elim
  | exc c fs h1 =>
    rw [em] at q
    exact .inl ⟨L, h, δ, r, s, by show AnsI X.K W σ L H ((mas δ h).bnd fEnum2) R; rw [em]; exact q⟩
  | ok ds h1 =>
    rw [em, MM.R.bnd_ok] at q
    by_cases z : ∃ es, ds = [D.tup es]
    · obtain ⟨es, rfl⟩ := z
      refine .inr ⟨L, h, δ, r, s, ?_⟩
      rw [em]
      intro L' H' vs x r' w
      obtain ⟨v, rfl, q1⟩ := w.one
      obtain ⟨a, xs, rfl, sq, w2⟩ := tup_of q1
      refine ⟨a, xs, rfl, sq, q L' H' _ x r' (Trod.pair (n := es.length) (by simp) rfl (fun L2 H2 h2 i x2 r2 e2 hi => ?_) (fun L2 H2 h2 x2 r2 e2 => ?_) fun L2 H2 h2 i v2 H3 x2 r2 e2 hi hy => ?_)⟩ <;>
        obtain ⟨a', ys, ea, s2, w3⟩ := tup_of (q1.mono x2) <;> cases ea
      · obtain ⟨u, e5, _⟩ := w3.get (List.getElem?_eq_getElem hi)
        exact ⟨ys, u, s2, e5⟩
      · exact ⟨ys, s2, w3.length.symm⟩
      · obtain ⟨T, y, g1, g2, g3, g4⟩ := hy
        obtain ⟨c, e6, q6⟩ := w3.get' (g4 ys s2)
        exact ⟨T, _, y, g1, g2, g3, ⟨.int i, by rw [List.getElem?_map, List.getElem?_range hi]; rfl, rep_int⟩, c, e6, q6⟩
    · have e2 : fEnum3 ds h1 = fEnum2 ds h1 := by
        unfold fEnum3
        split
        · rename_i es
          exact absurd ⟨es, rfl⟩ z
        · rfl
      rw [e2] at q
      exact .inl ⟨L, h, δ, r, s, by show AnsI X.K W σ L H ((mas δ h).bnd fEnum2) R; rw [em]; exact q⟩
end
end MM
namespace MM
open PySem PySem.Spec PyProof.Rows L2
def insO (h : MH) (d : D) : Option (Nat × Str × List (Str × D)) := match d with
  | .ref n => (match h[n]? with
    | some (.ins C fs) => some (n, C, fs)
    | _ => none)
  | _ => none
theorem insO_at {h : MH} {d : D} {n C fs} (e : insO h d = some (n, C, fs)) : d = .ref n ∧ h[n]? = some (.ins C fs) := by
  cases d with
  | ref k =>
    unfold insO at e
    simp only at e
    split at e
    · rename_i C' fs' z
      cases e
      exact ⟨rfl, z⟩
    · cases e
  | _ => cases e
@[simp] theorem insO_ref {h : MH} {n C fs} (e : h[n]? = some (.ins C fs)) : insO h (.ref n) = some (n, C, fs) := by unfold insO; simp only [e]
section
variable {K : PySem.W.Frag} {L : TL} {H : Hp} {h : MH}
theorem insO_of {d : D} {v : V} {n C fs} (r : Rel K L H h) (q : Rep K L H d v) (e : insO h d = some (n, C, fs)) :
    ∃ a dx Ca ws, v = .ref a ∧ L[n]? = some (some a) ∧ H a = some (.ins Ca dx ws) ∧ RepF K L H fs ws ∧ PySem.W.nsIn K mainGlobals C = some (some (.ref Ca)) := by
  obtain ⟨rfl, z⟩ := insO_at e
  obtain ⟨a, dx, Ca, ws, e1, e2, w, hC⟩ := r.at' n _ z
  exact ⟨a, dx, Ca, ws, q.ref e1, e1, e2, w, hC⟩
theorem RepF.look : ∀ {fs : List (Str × D)} {ws : List (Str × V)}, RepF K L H fs ws → ∀ f : Str,
    (∀ d, fs.lookup f = some d → ∃ v, ws.lookup f = some v ∧ Rep K L H d v) ∧ (fs.lookup f = none → ws.lookup f = none)
  | [], _, r, f => by cases r; exact ⟨fun d e => (by cases e), fun _ => rfl⟩
  | (g, d0) :: fs, _, ⟨v, vs, e, q, w⟩, f => by
    subst e
    cases hb : f == g with
    | true => exact ⟨fun d e => ⟨v, by simp [List.lookup, hb], by simp [List.lookup, hb] at e; subst e; exact q⟩, fun e => by simp [List.lookup, hb] at e⟩
    | false =>
      have i := RepF.look w f
      exact ⟨fun d e => by simp only [List.lookup, hb] at e ⊢; exact i.1 d e, fun e => by simp only [List.lookup, hb] at e ⊢; exact i.2 e⟩
theorem RepF.len : ∀ {fs : List (Str × D)} {ws : List (Str × V)}, RepF K L H fs ws → fs.length = ws.length
  | [], _, r => by cases r; rfl
  | p :: fs, _, ⟨v, vs, e, q, w⟩ => by subst e; rw [List.length_cons, List.length_cons, RepF.len w]
def putFD (f : Str) (v : D) : List (Str × D) → List (Str × D)
  | [] => [(f, v)]
  | (g, x) :: r => if g = f then (g, v) :: r else (g, x) :: putFD f v r
theorem RepF.put {f : Str} {d : D} {v : V} (q : Rep K L H d v) : ∀ {fs : List (Str × D)} {ws : List (Str × V)}, RepF K L H fs ws → RepF K L H (putFD f d fs) (putF f v ws)
  | [], _, r => by cases r; exact ⟨v, [], rfl, q, rfl⟩
  | (g, d0) :: fs, _, ⟨u, vs, e, q0, w⟩ => by
    subst e
    by_cases hg : g = f
    · rw [show putFD f d ((g, d0) :: fs) = (g, d) :: fs from if_pos hg, show putF f v ((g, u) :: vs) = (g, v) :: vs from if_pos hg]
      exact ⟨v, vs, rfl, q, w⟩
    · rw [show putFD f d ((g, d0) :: fs) = (g, d0) :: putFD f d fs from if_neg hg, show putF f v ((g, u) :: vs) = (g, u) :: putF f v vs from if_neg hg]
      exact ⟨u, _, rfl, q0, RepF.put q w⟩
end
structure ClsT (K : PySem.W.Frag) (C : Str) (a : Addr) (fl : List Str) : Prop where
  at' : PySem.W.nsIn K mainGlobals C = some (some (.ref a))
  cls : Cls K a
  no : ∀ f ∈ fl, NoAttr K a f
def FldT (K : PySem.W.Frag) (f : Str) (cs : List Str) : Prop := ∀ C ∈ cs, ∃ a fl, ClsT K C a fl ∧ f ∈ fl
theorem fldT_nil {K : PySem.W.Frag} {f : Str} : FldT K f [] := fun C h => nomatch h
theorem fldT_cons {K : PySem.W.Frag} {f C : Str} {a : Addr} {fl cs : List Str} (c : ClsT K C a fl) (t : FldT K f cs) (h : f ∈ fl := by decide +kernel) : FldT K f (C :: cs) := fun C' m => by
  rcases List.mem_cons.mp m with e | m
  · subst e; exact ⟨a, fl, c, h⟩
  · exact t C' m
theorem FldT.get {K : PySem.W.Frag} {f C : Str} {cs : List Str} {Ca : Addr} (t : FldT K f cs) (m : C ∈ cs) (hC : PySem.W.nsIn K mainGlobals C = some (some (.ref Ca))) : Cls K Ca ∧ NoAttr K Ca f := by
  obtain ⟨a, fl, c, hf⟩ := t C m
  have e := c.at'
  rw [hC] at e
  cases e
  exact ⟨c.cls, c.no f hf⟩
section
variable {X : Cx} {W : WX} {pos p : Pos} {o e a b : Expr} {es : List Expr} {mo me ma mb : ME} {mas : MA}
def fldG (cs : List Str) (f : Str) (d : D) (h1 : MH) : R D := match insO h1 d with
  | some (_, C, fs) => if C ∈ cs then (match fs.lookup f with
    | some x => .ok x h1
    | none => .stuck) else .stuck
  | none => .stuck
def mFld (cs : List Str) (f : Str) (m : ME) : ME := fun δ h => (m δ h).bnd (fldG cs f)
theorem pem_fld {f : Str} {cs : List Str} (t : FldT X.K f cs) (ho : PEM X W o mo) (hb : attributeBase o f X.env (eval o X.env) = eval o X.env := by rfl) : PEM X W (.Attribute o f pos) (mFld cs f mo) :=
  PE.imp (pe_fld ho hb) fun σ H Q ⟨L, h, δ, r, s, a⟩ => ⟨L, h, δ, r, s, Ans.imp (Ans.bind (rp := Rep X.K) a) fun v H1 ⟨L1, h1, d, x1, r1, p1, a1⟩ => by
    unfold fldG at a1
    cases ei : insO h1 d with
    | none => simp only [ei] at a1; exact a1.elim
    | some q =>
      obtain ⟨n, C, fs⟩ := q
      simp only [ei] at a1
      obtain ⟨ad, dx, Ca, ws, rfl, e1, e2, w, hC⟩ := insO_of r1 p1 ei
      by_cases m : C ∈ cs
      · rw [if_pos m] at a1
        obtain ⟨c1, c2⟩ := t.get m hC
        cases el : fs.lookup f with
        | none => simp only [el] at a1; exact a1.elim
        | some x =>
          simp only [el] at a1
          obtain ⟨u, e3, q⟩ := (w.look f).1 x el
          exact ⟨ad, Ca, dx, ws, u, rfl, e2, c1, c2, e3, ans_okE r1 q a1⟩
      · rw [if_neg m] at a1; exact a1.elim⟩
def setFG (cs : List Str) (f : Str) (d o : D) (h2 : MH) : Option MH := match insO h2 o with
  | some (n, C, fs) => if C ∈ cs ∧ fs.length < 1000 then some (h2.set n (.ins C (putFD f d fs))) else none
  | none => none
def mFldS (cs : List Str) (f : Str) (m mo : ME) : MSt := fun δ h => (m δ h).st δ fun d h1 => (mo δ h1).st δ fun o h2 => match setFG cs f d o h2 with
  | some h3 => .ok (.next δ) h3
  | none => .stuck
theorem ins_write {K : PySem.W.Frag} {L : TL} {H : Hp} {h : MH} {n : Nat} {C f : Str} {fs : List (Str × D)} {ad dx Ca : Addr} {ws : List (Str × V)} {d : D} {v : V} (r : Rel K L H h) (e1 : L[n]? = some (some ad)) (e2 : H ad = some (.ins Ca dx ws)) (w : RepF K L H fs ws)
    (hC : PySem.W.nsIn K mainGlobals C = some (some (.ref Ca))) (q : Rep K L H d v) : Ext L H L (upd H ad (.ins Ca dx (putF f v ws))) ∧ Rel K L (upd H ad (.ins Ca dx (putF f v ws))) (h.set n (.ins C (putFD f d fs))) := by
  have nf : ∀ o u, H ad ≠ some (.frz o u) := fun o u z => by rw [e2] at z; cases z
  exact r.write e1 nf ⟨ad, dx, Ca, _, rfl, upd_same, (w.mono (ext_write e1 nf)).put (q.mono (ext_write e1 nf)), hC⟩
theorem psm_fld {f : Str} {cs : List Str} {p' : Pos} (t : FldT X.K f cs) (ho : PEM X W o mo) (he : PEM X W e me) (hs : swapsWith e (some (.Attribute o f p')) pos.line X.env = pure false := by rfl) : PSM X W (.Assign [.Attribute o f p'] e pos) (mFldS cs f me mo) :=
  PS.imp (ps_fld ho he hs) fun D σ H ⟨L, h, δ, r, s, a⟩ => ⟨L, h, δ, r, s, Ans.imp (AnsS.bind (rp := Rep X.K) s a) fun y H1 ⟨L1, h1, d, x1, r1, p1, s1, a1⟩ => ⟨L1, h1, δ, r1, s1, Ans.imp (AnsS.bind (rp := Rep X.K) s1 a1) fun x H2 ⟨L2, h2, ob, x2, r2, p2, s2, a2⟩ => by
    unfold setFG at a2
    cases ei : insO h2 ob with
    | none => simp only [ei] at a2; exact a2.elim
    | some q =>
      obtain ⟨n, C, fs⟩ := q
      simp only [ei] at a2
      obtain ⟨ad, dx, Ca, ws, rfl, e1, e2, w, hC⟩ := insO_of r2 p2 ei
      by_cases m : C ∈ cs ∧ fs.length < 1000
      · rw [if_pos m] at a2
        obtain ⟨c1, c2⟩ := t.get m.1 hC
        obtain ⟨x3, r3⟩ := ins_write (f := f) r2 e1 e2 w hC (p1.mono x2)
        exact ⟨ad, Ca, dx, ws, rfl, e2, c1, c2, by rw [← w.len]; exact m.2, (a2.mono x3).nx r3 (s2.mono x3)⟩
      · rw [if_neg m] at a2; exact a2.elim⟩⟩
def mFldAug (cs : List Str) (f : Str) (g : D → D → MH → R D) (mo m : ME) : MSt := fun δ h => (mo δ h).st δ fun o h1 => match insO h1 o with
  | some (n, C, fs) => if C ∈ cs then (match fs.lookup f with
    | some x => (m δ h1).st δ fun y h2 => (g x y h2).st δ fun z h3 => (match insO h3 o with
      | some (_, C', fs') => if C' = C ∧ fs'.length < 1000 then .ok (.next δ) (h3.set n (.ins C (putFD f z fs'))) else .stuck
      | none => .stuck)
    | none => .stuck) else .stuck
  | none => .stuck
theorem psm_fldAug {f : Str} {cs : List Str} {op : Operator} {rd : R2} {g : D → D → MH → R D} {tp : Pos} (t : FldT X.K f cs) (hop : InOp X op rd) (hm : OpM X.K rd g) (ho : PEM X W o mo) (he : PEM X W e me) : PSM X W (.AugAssign (.Attribute o f tp) op e pos) (mFldAug cs f g mo me) :=
  PS.imp (ps_fldaug ho he hop) fun D σ H ⟨L, h, δ, r, s, a⟩ => ⟨L, h, δ, r, s, Ans.imp (AnsS.bind (rp := Rep X.K) s a) fun y H1 ⟨L1, h1, ob, x1, r1, p1, s1, a1⟩ => by
    cases ei : insO h1 ob with
    | none => simp only [ei] at a1; exact a1.elim
    | some q =>
      obtain ⟨n, C, fs⟩ := q
      simp only [ei] at a1
      obtain ⟨ad, dx, Ca, ws, rfl, e1, e2, w, hC⟩ := insO_of r1 p1 ei
      by_cases m : C ∈ cs
      · rw [if_pos m] at a1
        obtain ⟨c1, c2⟩ := t.get m hC
        cases el : fs.lookup f with
        | none => simp only [el] at a1; exact a1.elim
        | some x =>
          simp only [el] at a1
          obtain ⟨u, e3, qx⟩ := (w.look f).1 x el
          refine ⟨ad, Ca, dx, ws, u, rfl, e2, c1, c2, e3, L1, h1, δ, r1, s1, Ans.imp (AnsS.bind (rp := Rep X.K) s1 a1) fun y H2 ⟨L2, h2, dy, x2, r2, p2, s2, a2⟩ => ?_⟩
          refine hm L2 H2 h2 x dy u y _ _ r2 (qx.mono x2) p2 (Ans.imp (AnsS.bind (rp := Rep X.K) s2 a2) fun z H3 ⟨L3, h3, dz, x3, r3, p3, s3, a3⟩ => ?_)
          cases ej : insO h3 ob with
          | none => simp only [ej] at a3; exact a3.elim
          | some q3 =>
            obtain ⟨n', C', fs'⟩ := q3
            simp only [ej] at a3
            by_cases m2 : C' = C ∧ fs'.length < 1000
            · rw [if_pos m2] at a3
              obtain ⟨rfl, m3⟩ := m2
              obtain ⟨eo, _⟩ := insO_at ei
              obtain ⟨eo', _⟩ := insO_at ej
              rw [eo] at eo'
              cases eo'
              obtain ⟨ad', dx', Ca', ws', ev, f1, f2, w', hC'⟩ := insO_of r3 ((p1.mono x2).mono x3) ej
              cases ev
              rw [hC] at hC'
              cases hC'
              obtain ⟨x4, r4⟩ := ins_write (f := f) r3 f1 f2 w' hC p3
              exact ⟨dx', ws', f2, by rw [← w'.len]; exact m3, (a3.mono x4).nx r4 (s3.mono x4)⟩
            · rw [if_neg m2] at a3; exact a3.elim
      · rw [if_neg m] at a1; exact a1.elim⟩
end
end MM
namespace MM
open PySem PySem.Spec PyProof.Rows L2
structure MthAt (K : PySem.W.Frag) (Ca : Addr) (x qn : Str) (st : Stmt) (f : Addr) (fd : FuncData) (ps : List Str) : Prop where
  fn : Fun K x qn st f fd
  me : Meth K Ca x f
  bi : Binds K fd ps []
section
variable {X : Cx} {W : WX} {pos p apos : Pos} {o e a b : Expr} {es : List Expr} {mo me ma mb : ME} {mas : MA} {k : Nat} {f Ca : Addr} {fd : FuncData} {ps : List Str} {sp : Sp} {E : L2.St → XK} {ta : TE} {t : TA} {m x : Str}
def tMethS (C : Addr) (m : Str) (sp : Sp) (E : L2.St → XK) (ta : TE) (t : TA) : TE := fun σ H Q => ta σ H fun x H1 => ∃ a dx fs, x = .ref a ∧ H1 a = some (.ins C dx fs) ∧ fs.lookup m = none ∧ t σ H1 fun vs H2 => sp (x :: vs) H2 Q (E σ)
theorem pe_methS {CX : CXT} {pl : Sem Bool} (he : PE X o ta) (c : Cls X.K Ca) (hm : Meth X.K Ca m f) (F : FnOk X.prog X.w X.K X.mg X.base CX k f fd ps sp) (hr : Room k X.A) (hb : Binds X.K fd ps []) (hx : ∀ σ, PassesAt CX X σ (E σ)) (ha : PA X (e :: es) t)
    (hst : starEach (e :: es) X.env = (false, eval e X.env) :: starEach es X.env := by rfl) (hpl : (backTo pos (starEach es X.env)).any (·.1) = false := by rfl)
    (ht : eval (.Call (.Attribute o m apos) (e :: es) [] pos) X.env = (do let ov ← eval o X.env; standAt apos.atName; let (g, fst) ← holding [ov] (getMethod ov m pl); callWith pos g fst (backTo pos (starEach (e :: es) X.env)) (backToKw pos (keywordEach [] X.env))) := by rfl) :
    PE X (.Call (.Attribute o m apos) (e :: es) [] pos) (tMethS Ca m sp E ta t) := ⟨fun pins s σ H Q I h =>
  PySem.W.methodCall_KW (pl := pl) (thn (he.run pins s σ H _ I h) fun u s1 ⟨x, H1, I1, rx, a, dx, fs, ex, ea, l, q⟩ => by
    subst ex
    obtain rfl : u = Value.ref a := rx
    exact getmeth_ok I1 ea c hm l (PySem.W.callWith_K (first := [.ref a]) (h₀ := X.base) I.ok.mod.kin hm.kp (thn (ha.run pos pins s1 σ H1 _ I1 q) fun us s2 ⟨vs, H2, I2, r, q2⟩ => ⟨I2.kIn, run_fnS (us := .ref a :: us) (vs := .ref a :: vs) F hr hb (hx σ) I2 (.cons rfl r) q2⟩) hst hpl)) ht⟩
theorem pe_methS0 {CX : CXT} {pl : Sem Bool} (he : PE X o ta) (c : Cls X.K Ca) (hm : Meth X.K Ca m f) (F : FnOk X.prog X.w X.K X.mg X.base CX k f fd ps sp) (hr : Room k X.A) (hb : Binds X.K fd ps []) (hx : ∀ σ, PassesAt CX X σ (E σ))
    (ht : eval (.Call (.Attribute o m apos) [] [] pos) X.env = (do let ov ← eval o X.env; standAt apos.atName; let (g, fst) ← holding [ov] (getMethod ov m pl); callWith pos g fst (backTo pos (starEach [] X.env)) (backToKw pos (keywordEach [] X.env))) := by rfl) :
    PE X (.Call (.Attribute o m apos) [] [] pos) (tMethS Ca m sp E ta tNil) := ⟨fun pins s σ H Q I h =>
  PySem.W.methodCall_KW (pl := pl) (thn (he.run pins s σ H _ I h) fun u s1 ⟨x, H1, I1, rx, a, dx, fs, ex, ea, l, q⟩ => by
    subst ex
    obtain rfl : u = Value.ref a := rx
    exact getmeth_ok I1 ea c hm l (PySem.W.callWith_K0 (first := [.ref a]) I1.kIn hm.kp (run_fnS (us := [.ref a]) (vs := [.ref a]) F hr hb (hx σ) I1 (.cons rfl .nil) q))) ht⟩
def isI (C m : Str) (d : D) (h : MH) : Bool := match insO h d with
  | some (_, C', fs) => decide (C' = C ∧ fs.lookup m = none)
  | none => false
theorem isI_inv {C m : Str} {d : D} {h : MH} (e : isI C m d h = true) : ∃ n fs, insO h d = some (n, C, fs) ∧ fs.lookup m = none := by
  unfold isI at e
  split at e
  · rename_i n C' fs ei
    obtain ⟨rfl, z⟩ := of_decide_eq_true e
    exact ⟨n, fs, ei, z⟩
  · cases e
def mMeth (C m : Str) (g : List D → MH → R D) (mo : ME) (ms : MA) : ME := fun δ h => (mo δ h).bnd fun d h1 => if isI C m d h1 = true then (ms δ h1).bnd fun ds h2 => g (d :: ds) h2 else .stuck
theorem tMeth_of {C m : Str} {fl : List Str} {g : List D → MH → R D} (c : ClsT X.K C Ca fl) {σ : L2.St} {H : Hp} {Q : VK} (t : tE X.K W (mMeth C m g mo mas) σ H Q) : tMethS Ca m (spOf X.K g) (WE W) (tE X.K W mo) (tA X.K W mas) σ H Q := by
  obtain ⟨L, h, δ, r, s, a⟩ := t
  refine ⟨L, h, δ, r, s, Ans.imp (Ans.bind (rp := Rep X.K) a) fun v H1 ⟨L1, h1, d, x1, r1, p1, a1⟩ => ?_⟩
  by_cases z : isI C m d h1 = true
  · rw [if_pos z] at a1
    obtain ⟨n, fs, ei, z⟩ := isI_inv z
    obtain ⟨ad, dx, Ca', ws, rfl, e1, e2, w, hC⟩ := insO_of r1 p1 ei
    have e := c.at'
    rw [hC] at e
    cases e
    exact ⟨ad, dx, ws, rfl, e2, (w.look m).2 z, L1, h1, δ, r1, s.mono x1, Ans.imp (Ans.bind (rp := RepL X.K) a1) fun vs H2 ⟨L2, h2, ds, x2, r2, p2, a2⟩ => ⟨L2, h2, d :: ds, r2, .cons (p1.mono x2) p2, a2⟩⟩
  · rw [if_neg z] at a1; exact a1.elim
theorem pem_meth {C m qn : Str} {fl : List Str} {st : Stmt} {g : List D → MH → R D} (c : ClsT X.K C Ca fl) (F : FnM X.prog X.w X.K X.mg X.base k f fd ps g) (DA : MthAt X.K Ca m qn st f fd ps) (hr : Room k X.A) (tk : L2N.Takes X W) (ho : PEM X W o mo) (ha : PAM X W (e :: es) mas)
    (hst : starEach (e :: es) X.env = (false, eval e X.env) :: starEach es X.env := by rfl) (hpl : (backTo pos (starEach es X.env)).any (·.1) = false := by rfl)
    {pl : Sem Bool} (ht : eval (.Call (.Attribute o m apos) (e :: es) [] pos) X.env = (do let ov ← eval o X.env; standAt apos.atName; let (g, fst) ← holding [ov] (getMethod ov m pl); callWith pos g fst (backTo pos (starEach (e :: es) X.env)) (backToKw pos (keywordEach [] X.env))) := by rfl) :
    PEM X W (.Call (.Attribute o m apos) (e :: es) [] pos) (mMeth C m g mo mas) :=
  PE.imp (pe_methS (E := WE W) ho c.cls DA.me F hr DA.bi (fun σ => L2N.passAt tk σ) ha hst hpl ht) fun _ _ _ t => tMeth_of c t
theorem pem_meth0 {C m qn : Str} {fl : List Str} {st : Stmt} {g : List D → MH → R D} (c : ClsT X.K C Ca fl) (F : FnM X.prog X.w X.K X.mg X.base k f fd ps g) (DA : MthAt X.K Ca m qn st f fd ps) (hr : Room k X.A) (tk : L2N.Takes X W) (ho : PEM X W o mo)
    {pl : Sem Bool} (ht : eval (.Call (.Attribute o m apos) [] [] pos) X.env = (do let ov ← eval o X.env; standAt apos.atName; let (g, fst) ← holding [ov] (getMethod ov m pl); callWith pos g fst (backTo pos (starEach [] X.env)) (backToKw pos (keywordEach [] X.env))) := by rfl) :
    PEM X W (.Call (.Attribute o m apos) [] [] pos) (mMeth C m g mo mNil) :=
  PE.imp (pe_methS0 (E := WE W) ho c.cls DA.me F hr DA.bi (fun σ => L2N.passAt tk σ) ht) fun σ H Q t => by
    obtain ⟨L, h, δ, r, s, a⟩ := t
    refine ⟨L, h, δ, r, s, Ans.imp (Ans.bind (rp := Rep X.K) a) fun v H1 ⟨L1, h1, d, x1, r1, p1, a1⟩ => ?_⟩
    by_cases z : isI C m d h1 = true
    · rw [if_pos z] at a1
      obtain ⟨n, fs, ei, z⟩ := isI_inv z
      obtain ⟨ad, dx, Ca', ws, rfl, e1, e2, w, hC⟩ := insO_of r1 p1 ei
      have e := c.at'
      rw [hC] at e
      cases e
      exact ⟨ad, dx, ws, rfl, e2, (w.look m).2 z, L1, h1, [d], r1, .cons p1 .nil, a1⟩
    · rw [if_neg z] at a1; exact a1.elim
def tMakeS (C : Addr) (sp : Sp) (E : L2.St → XK) (t : TA) : TE := fun σ H Q => t σ H fun vs H1 => ∀ x dx, H1 x = none → H1 dx = none → dx ≠ x →
  sp (.ref x :: vs) (upd (upd H1 dx (.own x)) x (.ins C dx [])) (fun v H2 => v = .non ∧ Q (.ref x) H2) (E σ)
theorem run_makeS {CX : CXT} {σ : L2.St} {pins : List (Addr × Obj)} {H : Hp} {s : Shared} {Q : VK} {us : List Value} {vs : List V} (M : Mk X.K Ca f) (F : FnOk X.prog X.w X.K X.mg X.base CX k f fd ps sp) (hr : Room (k + 1) X.A) (hb : Binds X.K fd ps [])
    (hx : PassesAt CX X σ (E σ)) (I : Inv X pins σ H s) (r : Vals vs us) (h : ∀ x dx, H x = none → H dx = none → dx ≠ x → sp (.ref x :: vs) (upd (upd H dx (.own x)) x (.ins Ca dx [])) (fun v H2 => v = .non ∧ Q (.ref x) H2) (E σ)) :
    wpAny (model X.prog X.w) X.A (call (.ref Ca) us) (EP X pins σ Q) X.xe s := by
  have hq := h (s.heap.objs.size + 1) s.heap.objs.size (I.hok.fresh (Nat.le_succ _)) (I.hok.fresh (Nat.le_refl _)) (Nat.ne_of_lt (Nat.lt_succ_self _))
  have I2 := Inv.made (C := Ca) I
  have r2 : Vals (V.ref (s.heap.objs.size + 1) :: vs) (Value.ref (s.heap.objs.size + 1) :: us) := .cons rfl r
  have hl : (Value.ref (s.heap.objs.size + 1) :: us).length = ps.length := by rw [← r2.length]; exact F.len _ _ _ _ hq
  have bd := hb _ (Value.ref (s.heap.objs.size + 1) :: us) I2.kIn (by rw [List.append_nil]; exact hl)
  rw [List.append_nil] at bd
  refine wpAny_call (make_map (f := f) I.kIn M.makes M.init (beq_iff_eq.mp M.fn) (codeAny_mono (F.run _ X.stack _ _ ⟨Value.ref (s.heap.objs.size + 1) :: us, []⟩ (Value.ref (s.heap.objs.size + 1) :: us) _ _ (E σ) (hr.make Ca us []) (I2.env0.make Ca us []) bd r2 hq) fun r s' hq' => ?_))
  cases r with
  | error e => exact hx pins _ _ e s' I2 hq'
  | ok fl =>
    cases fl with
    | ret u =>
      obtain ⟨v, H', I3, rv, ev, q3⟩ := I2.after hq'
      subst ev
      exact ⟨rv, V.ref (s.heap.objs.size + 1), H', I3, rfl, q3⟩
    | _ => exact False.elim hq'
theorem pe_makeS {CX : CXT} (M : Mk X.K Ca f) (F : FnOk X.prog X.w X.K X.mg X.base CX k f fd ps sp) (hr : Room (k + 1) X.A) (hg : Gl X x) (hm : X.mg x = some (.ref Ca)) (hb : Binds X.K fd ps []) (hx : ∀ σ, PassesAt CX X σ (E σ)) (ha : PA X (e :: es) t)
    (hdb : (x == ("__debug__" : Str)) = false := by decide) (he : starEach (e :: es) X.env = (false, eval e X.env) :: starEach es X.env := by rfl) (hpl : (backTo pos (starEach es X.env)).any (·.1) = false := by rfl) : PE X (.Call (.Name x p) (e :: es) [] pos) (tMakeS Ca sp E t) :=
  ⟨fun pins s σ H Q I h => wpAny_Call_Name_kw (ld_glob I hg hm (PySem.W.callWith_K (h₀ := X.base) I.ok.mod.kin M.kp (thn (ha.run pos pins s σ H _ I h) fun us s1 ⟨vs, H1, I1, r, q⟩ => ⟨I1.kIn, run_makeS M F hr hb (hx σ) I1 r q⟩) he hpl) hdb)⟩
theorem pe_makeS0 {CX : CXT} (M : Mk X.K Ca f) (F : FnOk X.prog X.w X.K X.mg X.base CX k f fd ps sp) (hr : Room (k + 1) X.A) (hg : Gl X x) (hm : X.mg x = some (.ref Ca)) (hb : Binds X.K fd ps []) (hx : ∀ σ, PassesAt CX X σ (E σ))
    (hdb : (x == ("__debug__" : Str)) = false := by decide) : PE X (.Call (.Name x p) [] [] pos) (tMakeS Ca sp E tNil) :=
  ⟨fun pins s σ H Q I h => wpAny_Call_Name_kw (ld_glob I hg hm (PySem.W.callWith_K0 I.kIn M.kp (run_makeS (us := []) M F hr hb (hx σ) I .nil h)) hdb)⟩
def mkD (C : Str) (g : List D → MH → R D) (ds : List D) (h : MH) : R D := (g (.ref h.length :: ds) (h ++ [.ins C []])).bnd fun d h2 => match d with
  | .non => .ok (.ref h.length) h2
  | _ => .stuck
def mMake (C : Str) (g : List D → MH → R D) (ms : MA) : ME := fun δ h => (ms δ h).bnd fun ds h1 => mkD C g ds h1
theorem mk_of {K : PySem.W.Frag} {C : Str} {fl : List Str} {g : List D → MH → R D} (c : ClsT K C Ca fl) {L : TL} {H : Hp} {h : MH} {ds : List D} {vs : List V} {Q : VK} {E : XK} (r : Rel K L H h) (w : RepL K L H ds vs) (a : Ans K (Rep K) L H (mkD C g ds h) Q E)
    {x dx : Addr} (hx : H x = none) (hd : H dx = none) (ne : dx ≠ x) : spOf K g (.ref x :: vs) (upd (upd H dx (.own x)) x (.ins Ca dx [])) (fun v H2 => v = .non ∧ Q (.ref x) H2) E := by
  obtain ⟨x1, r1⟩ := r.fresh (o := .own x) hd
  have hx1 : upd H dx (.own x) x = none := by rw [upd_ne ne.symm]; exact hx
  obtain ⟨x2, r2⟩ := r1.alloc (m := .ins C []) (o := .ins Ca dx []) hx1 ⟨x, dx, Ca, [], rfl, upd_same, rfl, c.at'⟩
  have at0 : (L ++ [some x])[h.length]? = some (some x) := by rw [getElem?_snoc, if_pos r.len.symm]
  refine ⟨_, _, .ref h.length :: ds, r2, .cons ?_ (w.mono (x1.trans x2)), ?_⟩
  · unfold Rep
    exact ⟨x, rfl, .inl at0⟩
  · refine Ans.imp (Ans.bind (rp := Rep K) (rp2 := Rep K) (Ans.mono (x1.trans x2) a)) fun v H2 ⟨L2, h2, d, x3, r3, p3, a3⟩ => ?_
    cases d with
    | non =>
      refine ⟨by unfold Rep at p3; exact p3, ans_okE r3 ?_ a3⟩
      unfold Rep
      refine ⟨x, rfl, ?_⟩
      exact x3.live _ _ at0
    | _ => exact a3.elim
theorem pem_make {C x qn : Str} {fl : List Str} {st : Stmt} {g : List D → MH → R D} (c : ClsT X.K C Ca fl) (M : Mk X.K Ca f) (F : FnM X.prog X.w X.K X.mg X.base k f fd ps g) (bi : Binds X.K fd ps []) (hr : Room (k + 1) X.A) (tk : L2N.Takes X W) (hg : Gl X x) (hm : X.mg x = some (.ref Ca)) (ha : PAM X W (e :: es) mas)
    (hdb : (x == ("__debug__" : Str)) = false := by decide) (he : starEach (e :: es) X.env = (false, eval e X.env) :: starEach es X.env := by rfl) (hpl : (backTo pos (starEach es X.env)).any (·.1) = false := by rfl) : PEM X W (.Call (.Name x p) (e :: es) [] pos) (mMake C g mas) :=
  PE.imp (pe_makeS (E := WE W) M F hr hg hm bi (fun σ => L2N.passAt tk σ) ha hdb he hpl) fun σ H Q ⟨L, h, δ, r, s, a⟩ => ⟨L, h, δ, r, s, Ans.imp (Ans.bind (rp := RepL X.K) a) fun vs H1 ⟨L1, h1, ds, x1, r1, p1, a1⟩ x dx nx nd ne => mk_of c r1 p1 a1 nx nd ne⟩
theorem pem_make0 {C x qn : Str} {fl : List Str} {st : Stmt} {g : List D → MH → R D} (c : ClsT X.K C Ca fl) (M : Mk X.K Ca f) (F : FnM X.prog X.w X.K X.mg X.base k f fd ps g) (bi : Binds X.K fd ps []) (hr : Room (k + 1) X.A) (tk : L2N.Takes X W) (hg : Gl X x) (hm : X.mg x = some (.ref Ca))
    (hdb : (x == ("__debug__" : Str)) = false := by decide) : PEM X W (.Call (.Name x p) [] [] pos) (mMake C g mNil) :=
  PE.imp (pe_makeS0 (E := WE W) M F hr hg hm bi (fun σ => L2N.passAt tk σ) hdb) fun σ H Q ⟨L, h, δ, r, s, a⟩ x dx nx nd ne => mk_of c r .nil a nx nd ne
def isCG (C : Str) (d : D) (h1 : MH) : R D := match insO h1 d with
  | some (_, C', _) => if C' = C then .ok (.bl true) h1 else .stuck
  | none => .stuck
def mIsC (C : Str) (m : ME) : ME := fun δ h => (m δ h).bnd (isCG C)
structure OpAt (K : PySem.W.Frag) (Ca : Addr) (op : Operator) (f : Addr) : Prop where
  sf : PySem.W.selfFirst K Ca = true
  at' : PySem.W.findIn K (.ref Ca) (PySem.dunder op.info.2) = some (some (.ref f))
  fn : PySem.W.isFn K (.ref f) = true
end
section
variable {δ : MS} {h : MH} {m mo : ME} {ms : MA} {cs : List Str} {f C : Str} {g : List D → MH → R D} {n : Nat} {fs : List (Str × D)} {x d : D}
@[simp] theorem mFld_eq : mFld cs f m δ h = (m δ h).bnd (fldG cs f) := rfl
@[simp] theorem mFldS_eq : mFldS cs f m mo δ h = (m δ h).st δ fun d h1 => (mo δ h1).st δ fun o h2 => match setFG cs f d o h2 with | some h3 => .ok (.next δ) h3 | none => .stuck := rfl
@[simp] theorem mMeth_eq : mMeth C f g mo ms δ h = (mo δ h).bnd fun d h1 => if isI C f d h1 = true then (ms δ h1).bnd fun ds h2 => g (d :: ds) h2 else .stuck := rfl
@[simp] theorem mMake_eq : mMake C g ms δ h = (ms δ h).bnd fun ds h1 => mkD C g ds h1 := rfl
@[simp] theorem mIsC_eq : mIsC C m δ h = (m δ h).bnd (isCG C) := rfl
theorem fldG_ok (e : h[n]? = some (.ins C fs)) (hc : C ∈ cs) (el : fs.lookup f = some x) : fldG cs f (.ref n) h = .ok x h := by
  unfold fldG
  simp only [insO_ref e, if_pos hc, el]
theorem setFG_ok (e : h[n]? = some (.ins C fs)) (hc : C ∈ cs) (hl : fs.length < 1000) : setFG cs f d (.ref n) h = some (h.set n (.ins C (putFD f d fs))) := by
  unfold setFG
  simp only [insO_ref e, if_pos (And.intro hc hl)]
theorem isI_ok (e : h[n]? = some (.ins C fs)) (el : fs.lookup f = none) : isI C f (.ref n) h = true := by
  unfold isI
  simp [insO_ref e, el]
end
end MM
namespace MM
open PySem PySem.Spec PyProof.Rows L2
theorem drop_cons_iff {α : Type} {l r : List α} {k : Nat} {c : α} (e : l.drop k = c :: r) : l[k]? = some c ∧ l.drop (k + 1) = r ∧ k < l.length := by
  have hk : k < l.length := by
    rcases Nat.lt_or_ge k l.length with z | z
    · exact z
    · rw [List.drop_eq_nil_of_le z] at e; cases e
  rw [List.drop_eq_getElem_cons hk] at e
  obtain ⟨e1, e2⟩ := List.cons.inj e
  exact ⟨by rw [List.getElem?_eq_getElem hk, e1], e2, hk⟩
section
variable {PS' : Fl → MH → Prop} {ES : XPS}
theorem TmS_range {tgt : MG} {body : MSt} {N : Nat} (I : Nat → MS → MH → Prop)
    (step : ∀ i δ h, i < N → I i δ h → ∃ δ1, tgt (.int (i : Int)) δ = some δ1 ∧ TmS (body δ1 h) (Nx (I (i + 1))) ES)
    (fin : ∀ δ h, I N δ h → PS' (.next δ) h) {δ : MS} {h : MH} (i0 : I 0 δ h) : TmS (forM (fun _ => True) tgt body ((List.range N).map fun (i : Nat) => D.int i) δ h) PS' ES := by
  refine TmS_forN (fun ds δ h => ∃ k, k ≤ N ∧ ds = ((List.range N).map fun (i : Nat) => D.int i).drop k ∧ I k δ h) (fun _ _ _ _ => trivial) (fun x r δ h ⟨k, hk, e, i⟩ => ?_) (fun δ h ⟨k, hk, e, i⟩ => ?_) ⟨0, Nat.zero_le _, rfl, i0⟩
  · obtain ⟨e1, e2, e3⟩ := drop_cons_iff e.symm
    simp at e3
    have : x = .int (k : Int) := by
      rw [List.getElem?_map, List.getElem?_range e3] at e1
      exact (Option.some.inj e1).symm
    subst this
    obtain ⟨δ1, q1, q2⟩ := step k δ h e3 i
    exact ⟨δ1, q1, q2.imp fun f h2 ⟨δ2, ef, i2⟩ => ⟨δ2, ef, k + 1, e3, e2.symm, i2⟩⟩
  · have := congrArg List.length e
    simp at this
    have : k = N := by omega
    subst this
    exact fin _ _ i
theorem TmS_rangeR {tgt : MG} {body : MSt} {N : Nat} (I : Nat → MS → MH → Prop)
    (step : ∀ i δ h, i < N → I i δ h → ∃ δ1, tgt (.int (i : Int)) δ = some δ1 ∧ TmS (body δ1 h) (fun f h2 => match f with | .next δ2 => I (i + 1) δ2 h2 | .cont δ2 => I (i + 1) δ2 h2 | .brk δ2 => PS' (.next δ2) h2 | .ret d => PS' (.ret d) h2) ES)
    (fin : ∀ δ h, I N δ h → PS' (.next δ) h) {δ : MS} {h : MH} (i0 : I 0 δ h) : TmS (forM (fun _ => True) tgt body ((List.range N).map fun (i : Nat) => D.int i) δ h) PS' ES := by
  refine TmS_for (fun ds δ h => ∃ k, k ≤ N ∧ ds = ((List.range N).map fun (i : Nat) => D.int i).drop k ∧ I k δ h) (fun _ _ _ _ => trivial) (fun x r δ h ⟨k, hk, e, i⟩ => ?_) (fun δ h ⟨k, hk, e, i⟩ => ?_) ⟨0, Nat.zero_le _, rfl, i0⟩
  · obtain ⟨e1, e2, e3⟩ := drop_cons_iff e.symm
    simp at e3
    have : x = .int (k : Int) := by
      rw [List.getElem?_map, List.getElem?_range e3] at e1
      exact (Option.some.inj e1).symm
    subst this
    obtain ⟨δ1, q1, q2⟩ := step k δ h e3 i
    refine ⟨δ1, q1, q2.imp fun f h2 q => ?_⟩
    cases f with
    | next δ2 => exact ⟨k + 1, e3, e2.symm, q⟩
    | cont δ2 => exact ⟨k + 1, e3, e2.symm, q⟩
    | brk δ2 => exact q
    | ret d => exact q
  · have := congrArg List.length e
    simp at this
    have : k = N := by omega
    subst this
    exact fin _ _ i
theorem TmS.exN {s : SR} {P : Fl → MH → Prop} (t : TmS s P (fun _ _ _ _ => False)) : ∃ f h, s = .ok f h ∧ P f h := by
  cases s with
  | ok f h => exact ⟨f, h, rfl, t⟩
  | exc _ _ _ _ => exact t.elim
  | stuck => exact t.elim
end
theorem mFn_exc {n N : Nat} {ms : MSt} {ds : List D} {h g : MH} {c : Str} {fs : List (Str × D)} {δ : MS} (e : ds.length = n) (r : ms (mStart N ds) h = .exc c fs δ (h ++ g)) (q : (fs.all fun p => p.2.lows h.length) = true) : mFn n N ms ds h = .exc c fs h := by
  rw [mFn_eq e, r]
  show leaveX h c fs (h ++ g) = _
  unfold leaveX
  rw [if_pos ⟨(LeftOf.refl h).app, q⟩, take_app rfl]
theorem mFn_exc0 {n N : Nat} {ms : MSt} {ds : List D} {h : MH} {c : Str} {fs : List (Str × D)} {δ : MS} (e : ds.length = n) (r : ms (mStart N ds) h = .exc c fs δ h) (q : (fs.all fun p => p.2.lows h.length) = true) : mFn n N ms ds h = .exc c fs h := mFn_exc (g := []) e (by rw [List.append_nil]; exact r) q
theorem mFn_next {n N : Nat} {ms : MSt} {ds : List D} {h g : MH} {δ : MS} (e : ds.length = n) (r : ms (mStart N ds) h = .ok (.next δ) (h ++ g)) : mFn n N ms ds h = .ok .non h := by
  rw [mFn_eq e, r]
  show leave h .non (h ++ g) = _
  rw [leave_eq (LeftOf.refl h).app rfl, take_app rfl]
theorem mFn_next0 {n N : Nat} {ms : MSt} {ds : List D} {h : MH} {δ : MS} (e : ds.length = n) (r : ms (mStart N ds) h = .ok (.next δ) h) : mFn n N ms ds h = .ok .non h := mFn_next (g := []) e (by rw [List.append_nil]; exact r)
theorem lst?_end {h : MH} {acc : List D} : lst? (h ++ [.lst acc]) h.length = some acc := lst?_of (by simp)
theorem set_end {h : MH} {o o' : MO} : (h ++ [o]).set h.length o' = h ++ [o'] := by simp
end MM
set_option maxHeartbeats 2000000
namespace MSl
open PySem PySem.Spec PyProof.Rows L2
section
variable {prog : Program} {w : World} {A : Around} {E : Value → Shared → Prop} {s : Shared}
theorem put_cut {l b sl : Addr} {items new : Array Value} {n n2 : Nat} {vl vu : Value} {lo hi : Option Int} {a c : Nat} {Q : Unit → Shared → Prop} (el : s.heap.get? l = some { cls := .type "list", data := .seq items n }) (eb : s.heap.get? b = some { cls := .type "list", data := .seq new n2 })
    (apart : l ≠ b) (os : s.heap.IsSliceOf sl vl vu .none) (p1 : IsPart vl lo) (p2 : IsPart vu hi) (bd : sliceBounds lo hi none items.size = ((a : Int), (c : Int), 1)) (hac : a ≤ c) (room : items.size + new.size ≤ sizeLine)
    (k : Q () { s with heap := s.heap.update l (Obj.mapSeq fun xs => xs.extract 0 a ++ new ++ xs.extract c xs.size) }) : wpAny (model prog w) A (setItem (.ref l) (.ref sl) (.ref b)) Q E s := by
  have tl := (PySem.IsL.isList el).typeIs
  have tb := (PySem.IsL.isList eb).typeIs
  obtain ⟨ob, g1, g2, g3⟩ := id os
  have ts : s.TypeIs (.ref sl) "slice" := ⟨ob, g1, g2⟩
  have other : Builtin.List.listSameRef (.ref l) (.ref b) = false := beq_eq_false_iff_ne.mpr apart
  have big : (items.extract 0 a ++ new ++ items.extract c items.size).size ≤ sizeLine + 1 := by
    simp only [Array.size_append, Array.size_extract]; omega
  unfold setItem
  refine wpAny_holding (wpAny_bind (wpAny_sequenceKey tl (by decide) (wpAny_bind (wpAny_callSpecial?_slot (name := Str.ofString "__setitem__") tl slot_list_setitem (wpAny_call_entry slot_list_setitem tl entry_list_setitem ?_ (args_list_setitem _ _ _))))))
  show wpAny _ _ (Builtin.List.listSubscript? (.ref sl) >>= _) _ _ s
  unfold Builtin.List.listSubscript?
  refine wpAny_bind (wpAny_bind (wpAny_specialOf ts slice_no_index ?_))
  simp only [Option.isNone_none, if_true]
  refine wpAny_pure ?_
  show wpAny _ _ (typeOf (.ref sl) >>= _) _ _ s
  refine wpAny_bind (wpAny_typeOf ts (PySem.W.KFB.if_not (by decide) ?_))
  rw [listSliceParts_eq]
  refine wpAny_bind (wpAny_bind (wpAny_field g1 g3 (x := .none) rfl (wpAny_bind (wpAny_listPart .none ?_))))
  rw [if_neg (show ¬ ((rawPart none == rawInt 0) = true) from Bool.false_ne_true)]
  refine wpAny_bind (wpAny_field g1 g3 (x := vl) rfl (wpAny_bind (wpAny_listPart p1 (wpAny_bind (wpAny_field g1 g3 (x := vu) rfl (wpAny_bind (wpAny_listPart p2 (wpAny_pure ?_))))))))
  simp only [other, Bool.false_eq_true, if_false]
  unfold Builtin.List.listAllItems
  refine wpAny_bind (wpAny_bind (wpAny_typeOf tb (PySem.W.KFB.if_so (by decide) ?_)))
  unfold Builtin.List.listItems
  refine wpAny_bind (wpAny_seqItems eb rfl (wpAny_pure (wpAny_bind (wpAny_bind (wpAny_seqItems el rfl (wpAny_pure (wpAny_bind (wpAny_of_eq ((sliceIndices_raw lo hi none items.size (by simp)).trans (congrArg (pure : Int × Int × Int → Sem (Int × Int × Int)) bd)) ?_))))))))
  show wpAny _ _ (if ((1 : Int) == 1) = true then _ else _) _ _ s
  rw [if_pos (by decide)]
  refine wpAny_bind (wpAny_rule ?_)
  simp only [notLongL room, Bool.false_eq_true, if_false]
  show wpAny _ _ (updateSeq l (fun xs => xs.extract 0 ((a : Int)).toNat ++ new ++ xs.extract (max (a : Int) (c : Int)).toNat xs.size) >>= _) _ _ s
  rw [show (max (a : Int) (c : Int)).toNat = c by omega, Int.toNat_natCast]
  refine wpAny_bind (wpAny_updateSeq (hz := Nat.le_trans (Nat.le_add_right _ _) room) (_hz' := big) el rfl (wpAny_bind (wpAny_letGo ?_)))
  exact wpAny_pure ⟨.none, rfl, wpAny_pure k⟩
theorem cut_bounds {a c n : Nat} (hac : a ≤ c) : sliceBounds (some (a : Int)) (some (c : Int)) none n = (((min a n : Nat) : Int), ((min c n : Nat) : Int), 1) := by
  unfold sliceBounds
  simp only [Option.getD_none, show ¬ ((a : Int) < 0) by omega, show ¬ ((c : Int) < 0) by omega, if_false, show (1 : Int) > 0 by decide, if_true]
  refine Prod.ext ?_ (Prod.ext ?_ rfl)
  · show max 0 (min (a : Int) (n : Int)) = ((min a n : Nat) : Int)
    omega
  · show max 0 (min (c : Int) (n : Int)) = ((min c n : Nat) : Int)
    omega
end
section
variable {X : Cx}
theorem vals_cut {its its2 : List Value} {a c : Nat} : its.toArray.extract 0 a ++ its2.toArray ++ its.toArray.extract c its.toArray.size = (its.take a ++ its2 ++ its.drop c).toArray := splice_eq its its2 a c
theorem put_cutV {pins : List (Addr × Obj)} {s : Shared} {σ : L2.St} {H : Hp} {l b sl : Addr} {xs ys : List V} {a c : Nat} {vl vu : Value} {Q : Unit → Shared → Prop} (I : Inv X pins σ H s) (hl : H l = some (.lst xs)) (hb : H b = some (.lst ys)) (apart : l ≠ b)
    (os : s.heap.IsSliceOf sl vl vu .none) (p1 : IsPart vl (some (a : Int))) (p2 : IsPart vu (some (c : Int))) (hac : a ≤ c) (room : xs.length + ys.length ≤ sizeLine) (k : ∀ s', Inv X pins σ (upd H l (.lst (xs.take a ++ ys ++ xs.drop c))) s' → Q () s') :
    wpAny (model X.prog X.w) X.A (setItem (.ref l) (.ref sl) (.ref b)) Q X.xe s := by
  obtain ⟨z, i1, n1, r1, e1, g1⟩ := I.lstM hl
  obtain ⟨z2, i2, n2, r2, e2, g2⟩ := I.lstM hb
  have tk : ∀ (α : Type) (ls : List α) (m : Nat), ls.take (min m ls.length) = ls.take m := fun α ls m => by
    rcases Nat.le_total m ls.length with q | q
    · rw [Nat.min_eq_left q]
    · rw [Nat.min_eq_right q, List.take_of_length_le (Nat.le_refl _), List.take_of_length_le q]
  have dr : ∀ (α : Type) (ls : List α) (m : Nat), ls.drop (min m ls.length) = ls.drop m := fun α ls m => by
    rcases Nat.le_total m ls.length with q | q
    · rw [Nat.min_eq_left q]
    · rw [Nat.min_eq_right q, List.drop_eq_nil_of_le (Nat.le_refl _), List.drop_eq_nil_of_le q]
  refine put_cut (a := min a i1.length) (c := min c i1.length) g1 g2 apart os p1 p2 (by rw [List.size_toArray]; exact cut_bounds hac) (by omega) (by rw [List.size_toArray, List.size_toArray]; omega) (k _ ?_)
  refine I.lset (its' := i1.take (min a i1.length) ++ i2 ++ i1.drop (min c i1.length)) (t' := s.toks) hl g1 vals_cut ?_ ?_
  · rw [tk, dr]
    exact ((r1.take a).append r2).append (r1.drop c)
  · rw [List.length_append, List.length_append, List.length_take, List.length_drop]
    omega
def sCut (tv to : TE) (tl th : TO) : TS := fun D σ H => tv σ H fun v H1 => to σ H1 fun x H2 => tl σ H2 fun a H3 => th σ H3 fun c H4 => ∃ (l b : Addr) (xs ys : List V) (i j : Nat), x = .ref l ∧ v = .ref b ∧ l ≠ b ∧ H4 l = some (.lst xs) ∧ H4 b = some (.lst ys) ∧
  a = some (i : Int) ∧ c = some (j : Int) ∧ i ≤ j ∧ xs.length + ys.length ≤ sizeLine ∧ D.nx σ (upd H4 l (.lst (xs.take i ++ ys ++ xs.drop j)))
theorem ps_cut {o value : Expr} {lo hi : Option Expr} {p2 pos' pos : Pos} {tv to : TE} {tl th : TO} (hv : PE X value tv) (ho : PE X o to) (hl : PO X lo tl) (hh : PO X hi th) (hs : swapsWith value (some (.Subscript o (.Slice lo hi none p2) pos')) pos.line X.env = pure false := by rfl) :
    PS X (.Assign [.Subscript o (.Slice lo hi none p2) pos'] value pos) (sCut tv to tl th) := by
  refine ⟨fun pins s σ H D I h => wpAny_Assign_Subscript (thn (hv.run pins s σ H _ I h) fun r s1 ⟨v, H1, I1, rv, q1⟩ => thn (ho.run pins s1 σ H1 _ I1 q1) fun u s2 ⟨x, H2, I2, rx, q2⟩ => ?_) hs⟩
  refine wpAny_Slice (thn (hl.run pins s2 σ H2 _ I2 q2) fun vl s3 ⟨a, H3, I3, pl, q3⟩ => thn (hh.run pins s3 σ H3 _ I3 q3) fun vu s4 ⟨c, H4, I4, pu, q4⟩ => ?_)
  rw [evalPart_none]
  refine wpAny_pure ?_
  obtain ⟨l, b, xs, ys, i, j, rfl, rfl, apart, el, eb, rfl, rfl, hij, room, fin⟩ := q4
  obtain rfl : u = Value.ref l := rx
  obtain rfl : r = Value.ref b := rv
  have I5 : Inv X pins σ H4 { s4 with heap := s4.heap.push { cls := .type "slice", data := .fields #[vl, vu, .none] } } := I4.kept (t' := s4.toks) fun b ob q => Heap.get?_push_of_some _ q
  exact put_cutV I5 el eb apart (Heap.IsSliceOf.new ..) pl pu hij room fun s' I6 => ⟨σ, _, I6, fin⟩
end
end MSl
namespace MM
open PySem PySem.Spec PyProof.Rows L2
section
variable {X : Cx} {W : WX} {pos : Pos} {e o i : Expr} {me mo mi : ME} {K : PySem.W.Frag}
def opRep (x y : D) (h : MH) : R D := match x, y with
  | .ref n, .int k => (match lst? h n with
    | some ds => if -(2 ^ 63 : Int) ≤ k ∧ k < 2 ^ 63 ∧ ds.length * k.toNat ≤ 16777216 then .ok (.ref h.length) (h ++ [.lst (List.replicate k.toNat ds).flatten]) else .stuck
    | none => .stuck)
  | _, _ => .stuck
theorem RepL.rep {L H} {ds : List D} {vs : List V} (w : RepL K L H ds vs) : ∀ k : Nat, RepL K L H (List.replicate k ds).flatten (List.replicate k vs).flatten
  | 0 => .nil
  | k + 1 => by
    rw [List.replicate_succ, List.replicate_succ, List.flatten_cons, List.flatten_cons]
    exact w.append (RepL.rep w k)
theorem opRep_ok : OpM K rRep opRep := by
  intro L H h dx dy x y Q E r px py a
  unfold opRep at a
  split at a
  · rename_i n k
    cases z : lst? h n with
    | none => simp only [z] at a; exact a.elim
    | some ds =>
      simp only [z] at a
      by_cases hz : -(2 ^ 63 : Int) ≤ k ∧ k < 2 ^ 63 ∧ ds.length * k.toNat ≤ 16777216
      · rw [if_pos hz] at a
        obtain ⟨p, xs, e1, e2, w⟩ := r.lst (lst?_at z)
        refine ⟨p, k, xs, px.ref e1, rep_int_inv py, e2, hz.1, hz.2.1, by rw [← w.length]; exact szl hz.2.2, fun q hq => ?_⟩
        obtain ⟨x1, r1⟩ := r.alloc (m := .lst (List.replicate k.toNat ds).flatten) (o := .lst (List.replicate k.toNat xs).flatten) hq ⟨q, _, rfl, upd_same, (RepL.rep w _).mono (ext_alloc hq)⟩
        refine ans_of ⟨x1, r1, ?_⟩ a
        unfold Rep
        exact ⟨q, rfl, .inl (by rw [getElem?_snoc, if_pos r.len.symm])⟩
      · rw [if_neg hz] at a; exact a.elim
  · exact a.elim
def cutG (d o : D) (l u : Option Int) (h : MH) : Option MH := match d, o, l, u with
  | .ref n, .ref m, some a, some c => (lst? h n).bind fun ys => (lst? h m).bind fun xs => if n ≠ m ∧ 0 ≤ a ∧ a ≤ c ∧ xs.length + ys.length ≤ 16777216 then some (h.set m (.lst (xs.take a.toNat ++ ys ++ xs.drop c.toNat))) else none
  | _, _, _, _ => none
def mCut (m mo : ME) (lo hi : MOp) : MSt := fun δ h => (m δ h).st δ fun d h1 => (mo δ h1).st δ fun o h2 => (lo δ h2).st δ fun l h3 => (hi δ h3).st δ fun u h4 => match cutG d o l u h4 with
  | some h5 => .ok (.next δ) h5
  | none => .stuck
theorem psm_cut {lo hi : Option Expr} {p2 pos' : Pos} {ml mh : MOp} (he : PEM X W e me) (ho : PEM X W o mo) (hl : POM X W lo ml) (hh : POM X W hi mh) (hs : swapsWith e (some (.Subscript o (.Slice lo hi none p2) pos')) pos.line X.env = pure false := by rfl) :
    PSM X W (.Assign [.Subscript o (.Slice lo hi none p2) pos'] e pos) (mCut me mo ml mh) :=
  PS.imp (MSl.ps_cut he ho hl hh hs) fun D σ H ⟨L, h, δ, r, s, a⟩ => ⟨L, h, δ, r, s, Ans.imp (AnsS.bind (rp := Rep X.K) s a) fun v H1 ⟨L1, h1, d, x1, r1, p1, s1, a1⟩ =>
    ⟨L1, h1, δ, r1, s1, Ans.imp (AnsS.bind (rp := Rep X.K) s1 a1) fun vo H2 ⟨L2, h2, d2, x2, r2, p2, s2, a2⟩ => ⟨L2, h2, δ, r2, s2, Ans.imp (AnsS.bind (rp := rpO) s2 a2) fun l H3 ⟨L3, h3, l', x3, r3, p3, s3, a3⟩ =>
      ⟨L3, h3, δ, r3, s3, Ans.imp (AnsS.bind (rp := rpO) s3 a3) fun u H4 ⟨L4, h4, u', x4, r4, p4, s4, a4⟩ => by
        cases p3
        cases p4
        cases eg : cutG d d2 l u h4 with
        | none => rw [eg] at a4; exact a4.elim
        | some h5 =>
          rw [eg] at a4
          unfold cutG at eg
          split at eg
          · rename_i n m a c
            obtain ⟨ys, g1, eg⟩ := Option.bind_eq_some_iff.mp eg
            obtain ⟨xs, g2, eg⟩ := Option.bind_eq_some_iff.mp eg
            split at eg
            · rename_i z
              obtain ⟨z1, z2, z3, z4⟩ := z
              cases eg
              obtain ⟨pb, ws, e1, e2, w1⟩ := r4.lst (lst?_at g1)
              obtain ⟨pl, vs, e3, e4, w2⟩ := r4.lst (lst?_at g2)
              obtain ⟨i, rfl⟩ := Int.eq_ofNat_of_zero_le z2
              obtain ⟨j, rfl⟩ := Int.eq_ofNat_of_zero_le (Int.le_trans z2 z3)
              simp only [Int.toNat_natCast] at a4
              have pd := (p1.mono (x2.trans (x3.trans x4))).ref e1
              have po := (p2.mono (x3.trans x4)).ref e3
              obtain ⟨x5, r5⟩ := r4.wr e3 e4 (((w2.take i).append w1).append (w2.drop j))
              exact ⟨pl, pb, vs, ws, i, j, po, pd, fun z => z1 (r4.inj _ _ pl (by rw [z]; exact e1) e3), e4, e2, rfl, rfl, by omega, by rw [← w1.length, ← w2.length]; exact szl z4, (a4.mono x5).nx r5 (s4.mono x5)⟩
            · cases eg
          · cases eg⟩⟩⟩⟩
end
end MM
set_option maxHeartbeats 2000000
namespace MM
open PySem PySem.Spec PyProof.Rows L2
section
variable {X : Cx} {W : WX} {pos p apos : Pos} {o e a b : Expr} {es : List Expr} {mo me ma mb : ME} {mas : MA} {k : Nat} {f Ca : Addr} {fd : FuncData} {ps : List Str} {sp : Sp} {ta : TE} {t : TA} {x : Str}
structure SpcAt (K : PySem.W.Frag) (Ca : Addr) (nm : Str) (f : Addr) : Prop where
  at' : PySem.W.findIn K (.ref Ca) nm = some (some (.ref f))
  fn : PySem.W.isFn K (.ref f) = true
def rInOwn (no : Bool) (Ca : Addr) (sp : Sp) : R2 := fun x y H Q => ∃ b dx fs, y = .ref b ∧ H b = some (.ins Ca dx fs) ∧ sp [y, x] H (fun v H' => ∃ c, v = .bl c ∧ Q (.bl (no != c)) H') (fun _ _ _ => False)
theorem op_inOwn {CX : CXT} (oa : SpcAt X.K Ca "__contains__" f) (F : FnOk X.prog X.w X.K X.mg X.base CX k f fd ps sp) (hr : Room k X.A) (hb : Binds X.K fd ps []) (hx : ∀ σ, PassesAt CX X σ (fun _ _ _ => False)) : OpR X (compareOp .In) (rInOwn false Ca sp) := by
  rintro pins s σ H x y u v Q I rx ry ⟨b, dx, fs, rfl, eb, h⟩
  obtain rfl : v = Value.ref b := ry
  obtain ⟨mA, O, _⟩ := ins_get I.hok eb
  obtain ⟨od, J, _⟩ := O.look
  obtain ⟨m, fr⟩ := I.fr
  refine PySem.W.in_K fr I.ok.mod.kin J oa.at' oa.fn (wpAny_mono (run_fnS (E := fun _ _ _ _ => False) (us := [.ref b, u]) F hr hb (hx σ) I (.cons (show RelV (.ref b) (.ref b) from rfl) (.cons rx .nil)) h) (fun r s' q => ?_) fun _ _ z => z)
  obtain ⟨z, H', I', rz, c, rfl, q⟩ := q
  cases (show r = Value.bool c from rz)
  exact wpAny_pure ⟨.bl c, H', I', rfl, by simpa using q⟩
def opInOwn (no : Bool) (C : Str) (g : List D → MH → R D) : D → D → MH → R D := fun x y h => match insO h y with
  | some (_, C1, _) => if C1 = C then (g [y, x] h).nx.bnd fun d h' => (match d with
    | .bl c => .ok (.bl (no != c)) h'
    | _ => .stuck) else .stuck
  | none => .stuck
theorem opInOwn_ok {K : PySem.W.Frag} {no : Bool} {C : Str} {fl : List Str} {g : List D → MH → R D} (c : ClsT K C Ca fl) : OpM K (rInOwn no Ca (spOf K g)) (opInOwn no C g) := by
  intro L H h dx dy x y Q E r px py a
  unfold opInOwn at a
  split at a
  · rename_i n C1 fs ei
    split at a
    · rename_i z
      subst z
      obtain ⟨ad, ex, Ca1, ws, rfl, e1, e2, w, hC⟩ := insO_of r py ei
      have e := c.at'
      rw [hC] at e
      cases e
      refine ⟨ad, ex, ws, rfl, e2, L, h, [dy, dx], r, .cons py (.cons px .nil), ?_⟩
      refine Ans.imp (Ans.nx (Ans.bind (rp := Rep K) a)) fun v H1 ⟨L1, h1, d, x1, r1, p1, a1⟩ => ?_
      cases d with
      | bl c => exact ⟨c, rep_bl_inv p1, ans_okE r1 rep_bl a1⟩
      | _ => exact a1.elim
    · exact a.elim
  · exact a.elim
def mProp (C : Str) (g : List D → MH → R D) (mo : ME) : ME := fun δ h => (mo δ h).bnd fun d h1 => match insO h1 d with
  | some (_, C1, _) => if C1 = C then (g [d] h1).nx else .stuck
  | none => .stuck
def mDPop (mo me : ME) : ME := fun δ h => (mo δ h).bnd fun d h1 => match d with
  | .ref n => (match dic? h1 n with
    | some _ => (me δ h1).bnd fun y h2 => (match dic? h2 n, keyD y with
      | some kvs, some k => (match valD kvs k with
        | some v => .ok v (h2.set n (.dic (kvs.filter fun p => decide (p.1 ≠ k))))
        | none => .stuck)
      | _, _ => .stuck)
    | none => .stuck)
  | _ => .stuck
theorem repK_drop {K : PySem.W.Frag} {L H} {k : Key} : ∀ {kvs : List (Key × D)} {ws : List (Key × V)}, RepK K L H kvs ws → RepK K L H (kvs.filter fun p => decide (p.1 ≠ k)) (dropK ws k)
  | [], _, w => by cases w; rfl
  | p :: r, _, ⟨u, us, e, q, w⟩ => by
    subst e
    have i := repK_drop (k := k) w
    by_cases hk : p.1 = k
    · rw [List.filter_cons_of_neg (by simp [hk])]
      show RepK K L H _ (List.filter _ _)
      rw [List.filter_cons_of_neg (by simp [hk])]
      exact i
    · rw [List.filter_cons_of_pos (by simp [hk])]
      show RepK K L H _ (List.filter _ _)
      rw [List.filter_cons_of_pos (by simp [hk])]
      exact ⟨u, _, rfl, q, i⟩
theorem pem_dpop {cpos : Pos} (ho : PEM X W o mo) (he : PEM X W e me) (m : M1 X o "pop" apos e cpos) : PEM X W (.Call (.Attribute o "pop" apos) [e] [] cpos) (mDPop mo me) :=
  PE.imp (pe_dpop1 ho he m) fun σ H Q ⟨L, h, δ, r, s, a⟩ => ⟨L, h, δ, r, s, Ans.imp (Ans.bind (rp := Rep X.K) a) fun v H1 ⟨L1, h1, d, x1, r1, p1, a1⟩ => by
    cases d with
    | ref n =>
      simp only at a1
      cases e1 : dic? h1 n with
      | none => simp only [e1] at a1; exact a1.elim
      | some kvs0 =>
        simp only [e1] at a1
        obtain ⟨ad, ws0, f1, f2, w0⟩ := r1.dic (dic?_at e1)
        refine ⟨ad, p1.ref f1, .inl ⟨ws0, .inl f2⟩, L1, h1, δ, r1, s.mono x1, Ans.imp (Ans.bind (rp := Rep X.K) a1) fun y H2 ⟨L2, h2, dy, x2, r2, p2, a2⟩ => ?_⟩
        cases e2 : dic? h2 n with
        | none => simp only [e2] at a2; exact a2.elim
        | some kvs =>
          cases e3 : keyD dy with
          | none => simp only [e2, e3] at a2; exact a2.elim
          | some k =>
            simp only [e2, e3] at a2
            cases e4 : valD kvs k with
            | none => simp only [e4] at a2; exact a2.elim
            | some x =>
              simp only [e4] at a2
              obtain ⟨ad2, ws, g1, g2, w⟩ := r2.dic (dic?_at e2)
              have : ad2 = ad := by
                have z := (p1.mono x2).ref g1
                have z2 := p1.ref f1
                rw [z2] at z; cases z; rfl
              subst this
              obtain ⟨u, e5, qu⟩ := (show ∃ u, valV ws k = some u ∧ Rep X.K L2 H2 x u by
                have z := repO_K (k := k) w
                rw [e4] at z
                exact z)
              have nf : ∀ o u, H2 ad2 ≠ some (.frz o u) := fun o u z => by rw [g2] at z; cases z
              obtain ⟨x3, r3⟩ := r2.write (m := .dic (kvs.filter fun p => decide (p.1 ≠ k))) g1 nf (o := .dK (dropK ws k)) ⟨ad2, dropK ws k, rfl, upd_same, (repK_drop w).mono (ext_write g1 nf)⟩
              exact ⟨ws, k, u, g2, keyD_ok p2 e3, e5, ans_of ⟨x3, r3, qu.mono x3⟩ a2⟩
    | _ => exact a1.elim⟩
def fLRg (x y : D) (h : MH) : R D := match x, y with
  | .int i, .int j => if (0 ≤ i ∧ i ≤ 16777216) ∧ 0 ≤ j ∧ j ≤ 16777216 then .ok (.rol ((List.range (j - i).toNat).map fun (n : Nat) => D.int (i + n))) h else .stuck
  | _, _ => .stuck
def mLRg (ma mb : ME) : ME := fun δ h => (ma δ h).bnd fun x h1 => (mb δ h1).bnd fun y h2 => fLRg x y h2
theorem pem_listRg {p2 pos2 : Pos} (hc : X.calm = true) (hg : Gl X "list") (hm : X.mg "list" = none) (hg2 : Gl X "range") (hm2 : X.mg "range" = none) (ha : PEM X W a ma) (hb : PEM X W b mb)
    (na : starEach [.Call (.Name "range" p2) [a, b] [] pos2] X.env = (false, eval (.Call (.Name "range" p2) [a, b] [] pos2) X.env) :: starEach [] X.env := by rfl) (nb : starEach [a, b] X.env = (false, eval a X.env) :: starEach [b] X.env := by rfl)
    (nc : starEach [b] X.env = (false, eval b X.env) :: starEach [] X.env := by rfl) (nh : (backTo pos2 (starEach [b] X.env)).any (·.1) = false := by rfl) : PEM X W (.Call (.Name "list" p) [.Call (.Name "range" p2) [a, b] [] pos2] [] pos) (mLRg ma mb) :=
  PE.imp (pe_listRg hc hg hm (prg_2 hg2 hm2 ha hb nb nc nh) na) fun σ H Q ⟨L, h, δ, r, s, a⟩ => ⟨L, h, δ, r, s, Ans.imp (Ans.bind (rp := Rep X.K) a) fun v H1 ⟨L1, h1, d, x1, r1, p1, a1⟩ => ⟨L1, h1, δ, r1, s.mono x1, Ans.imp (Ans.bind (rp := Rep X.K) a1) fun u H2 ⟨L2, h2, e, x2, r2, p2, a2⟩ => by
    unfold fLRg at a2
    split at a2
    · rename_i i j _
      split at a2
      · rename_i z
        refine ⟨i, j, by rw [rep_int_inv (p1.mono x2)], by rw [rep_int_inv p2], RgOk.of_le z.1.1 z.2.2 z.1.2 z.2.1, fun q hq => ?_⟩
        have w : ∀ (ls : List Nat), RepL X.K L2 H2 (ls.map fun (n : Nat) => D.int (i + n)) (ls.map fun (n : Nat) => V.int (i + n)) := fun ls => by
          induction ls with
          | nil => exact .nil
          | cons n ls ih => exact .cons rep_int ih
        exact ans_of (rep_rol r2 hq (w _)) a2
      · exact a2.elim
    · exact a2.elim⟩⟩
end
structure PrpAt (K : PySem.W.Frag) (x qn : Str) (st : Stmt) (f : Addr) (fd : FuncData) (ps : List Str) : Prop where
  fn : Fun K x qn st f fd
  bi : Binds K fd ps []
section
variable {δ : MS} {h h' : MH} {m mo a b : ME} {C : Str} {g : List D → MH → R D} {n k : Nat} {fs : List (Str × D)} {ds es : List D} {x d : D}
@[simp] theorem mProp_eq : mProp C g mo δ h = (mo δ h).bnd fun d h1 => match insO h1 d with | some (_, C1, _) => if C1 = C then (g [d] h1).nx else .stuck | none => .stuck := rfl
@[simp] theorem mLRg_eq : mLRg a b δ h = (a δ h).bnd fun x h1 => (b δ h1).bnd fun y h2 => fLRg x y h2 := rfl
theorem fLRg_ok {i j : Int} (z : (0 ≤ i ∧ i ≤ 16777216) ∧ 0 ≤ j ∧ j ≤ 16777216) : fLRg (.int i) (.int j) h = .ok (.rol ((List.range (j - i).toNat).map fun (n : Nat) => D.int (i + n))) h := if_pos z
@[simp] theorem nx_ok {α : Type} {y : α} : (R.ok y h : R α).nx = .ok y h := rfl
theorem opRep_at {z : Int} (e : lst? h n = some ds) (hz : -(2 ^ 63 : Int) ≤ z ∧ z < 2 ^ 63 ∧ ds.length * z.toNat ≤ 16777216) : opRep (.ref n) (.int z) h = .ok (.ref h.length) (h ++ [.lst (List.replicate z.toNat ds).flatten]) := by
  unfold opRep
  simp only [e, if_pos hz]
theorem cutG_at {i j : Nat} (e1 : lst? h n = some ds) (e2 : lst? h k = some es) (ne : n ≠ k) (hij : i ≤ j) (hz : es.length + ds.length ≤ 16777216) : cutG (.ref n) (.ref k) (some (i : Int)) (some (j : Int)) h = some (h.set k (.lst (es.take i ++ ds ++ es.drop j))) := by
  unfold cutG
  simp only [e1, e2, Option.bind_some]
  rw [if_pos ⟨ne, by omega, by omega, hz⟩]
  simp
end
end MM
namespace L2
open PySem PySem.Spec PyProof.Rows GenW
section
variable {X : Cx}
end
end L2
namespace L2
open PySem PySem.Spec PyProof.Rows
variable {X : Cx}
end L2
namespace MM
open PySem PySem.Spec PyProof.Rows L2
end MM
namespace MM
open PySem PySem.Spec PyProof.Rows L2
theorem _root_.L2H.RoomH.units {k : Nat} {A : Around} (r : L2H.RoomH k A) : A.units + 64 < cLine := Nat.lt_of_le_of_lt (Nat.add_le_add_left (by omega) _) (Nat.lt_of_le_of_lt (Nat.le_of_eq (Nat.add_assoc A.units (16 * k) 200).symm) r.un)
abbrev MGd := List D → MH → R Src
section
variable {P : Program} {w : World} {K : PySem.W.Frag} {mg : Str → Option Value} {base : Heap}
end
open Classical in
section
variable {X : Cx} {W : WX} {o : Expr} {mo : ME} {k : Nat} {f Ca : Addr} {fd : FuncData} {C m qn nm : Str} {fl : List Str} {st : Stmt} {g : MGd} {p pos pos' apos : Pos}
end
end MM
set_option maxHeartbeats 2000000
namespace L2
open PySem PySem.Spec PyProof.Rows GenW
section
variable {prog : Program} {w : World} {A : Around} {E : Value → Shared → Prop} {s : Shared}
end
end L2
set_option maxHeartbeats 2000000
namespace L2
open PySem PySem.Spec PyProof.Rows GenW
section
variable {P : Program} {w : World} {K : PySem.W.Frag} {mg : Str → Option Value} {base : Heap}
end
section
variable {P : Program} {w : World} {K : PySem.W.Frag} {mg : Str → Option Value} {base : Heap} {N : List Str} {qual : Str} {scope : Scope} {f : Addr} {cd : Value} {A : Around} {outer : List Env} {s s1 s2 : Shared} {H : Hp} {E : XK} {pn pins : List (Addr × Obj)} {σ : L2.St}
end
end L2
set_option maxHeartbeats 2000000
namespace MM
open PySem PySem.Spec PyProof.Rows L2 GenW
section
variable {X : Cx} {k : Nat} {C fi fn : Addr} {fdI fdN : FuncData} {qi qn fl : Str} {stI stN : Stmt} {p1 p2 p3 p4 q1 q2 q3 q4 q5 : Pos}
end
end MM
namespace MM
open PySem PySem.Spec PyProof.Rows L2
section
variable {X : Cx} {W : WX} {a D dd : Addr} {oe : Obj} {pn : List (Addr × Obj)} {e : Expr} {te : TE} {me : ME} {pos p p2 : Pos} {c2 : Str} {b : Bool} {T : String}
end
end MM
namespace MM
open PySem PySem.Spec PyProof.Rows L2
structure XCl (K : PySem.W.Frag) (mg : Str → Option Value) (B : Str) (aB C : Addr) : Prop where
  mg' : mg B = some (.ref aB)
  exB : PySem.W.subIn K (.ref aB) (.type "BaseException") = some true
  hdB : PySem.W.hasDictIn K aB = true
  tyB : PySem.W.typeIn K (.ref aB) = some (.type "type")
  up : PySem.W.subIn K (.ref C) (.ref aB) = some true
section
variable {X : Cx} {W : WX} {n c B : Str} {fl : List Str} {C aB : Addr} {i : Nat} {body suite : List Stmt} {b₀ : Stmt} {np pos pos' : Pos} {mb : MSt} {ms : Addr → Addr → List (Str × D) → MSt}
end
end MM
namespace MM
open PySem PySem.Spec PyProof.Rows L2
def opAddL (x y : D) (h : MH) : R D := match lstD x h, lstD y h with
  | some ds, some es => if ds.length + es.length ≤ 16777216 then .ok (.rol (ds ++ es)) h else .stuck
  | _, _ => opAddS x y h
theorem opAddL_ok {K : PySem.W.Frag} : OpM K (rAddS K) opAddL := by
  intro L H h dx dy x y Q E r px py a
  unfold opAddL at a
  split at a
  · rename_i ds es e1 e2
    split at a
    · rename_i z
      obtain ⟨p, xs, rfl, s, w⟩ := lstD_of r px e1
      obtain ⟨q, ys, rfl, s', w'⟩ := lstD_of r py e2
      exact .inr ⟨p, q, xs, ys, rfl, rfl, s, s', by rw [← w.length, ← w'.length]; exact szl z, fun p hp => ans_of (rep_rol r hp (w.append w')) a⟩
    · exact a.elim
  · exact opAddS_ok L H h dx dy x y Q E r px py a
@[simp] theorem opAddL_int {i j : Int} {h : MH} : opAddL (.int i) (.int j) h = .ok (.int (i + j)) h := rfl
@[simp] theorem opAddL_str {x y : Str} {h : MH} (e : x.length + y.length ≤ 16777216) : opAddL (.str x) (.str y) h = .ok (.str (x ++ y)) h := if_pos e
end MM
set_option maxHeartbeats 2000000
namespace MSl
open PySem PySem.Spec PyProof.Rows L2
section
variable {prog : Program} {w : World} {A : Around} {E : Value → Shared → Prop} {s : Shared}
end
section
variable {X : Cx}
end
end MSl
namespace MM
open PySem PySem.Spec PyProof.Rows L2
section
variable {X : Cx} {W : WX} {pos p : Pos} {e o : Expr} {es : List Expr} {me mo mv : ME} {mas : MA} {K : PySem.W.Frag}
theorem _root_.L2.PG.or {t1 t2 : TG} (h1 : PG X e t1) (h2 : PG X e t2) : PG X e (fun v σ H Q => t1 v σ H Q ∨ t2 v σ H Q) :=
  ⟨fun pins s σ H v u Q I r q => q.elim (h1.run pins s σ H v u Q I r) (h2.run pins s σ H v u Q I r)⟩
def mgSeq (n : Nat) (gs : MGs) : MG := fun d δ => match d with
  | .tup ds => if ds.length = n then gs ds δ else none
  | .rol ds => if ds.length = n then gs ds δ else none
  | _ => none
theorem pgm_seq {S : List Nat} {es : List Expr} {k n : Nat} {gs : MGs} (hc : X.calm = true) (h : PGsM X es S gs)
    (hn : (assignEach es X.env).length = n := by rfl) (hst : (assignEach es X.env).findIdx? (·.1) = none := by rfl) : PGM X (.Tuple es k pos) S (mgSeq n gs) :=
  PG.imp (PG.or (pg_tup hc h hn hst) (pg_lst hc h hn hst)) fun v σ H Q ⟨L, h, δ, d, r, s, p, δ', e, q⟩ => by
    cases d with
    | tup ds =>
      obtain ⟨a, xs, rfl, st, w⟩ := tup_of p
      replace e : (if ds.length = n then gs ds δ else none) = some δ' := e
      by_cases hl : ds.length = n
      · rw [if_pos hl] at e
        exact .inl ⟨a, xs, rfl, st, by rw [← w.length]; exact hl, L, h, δ, ds, r, s, w, δ', e, q⟩
      · rw [if_neg hl] at e; cases e
    | rol ds =>
      obtain ⟨a, xs, rfl, st, w⟩ := rol_sf p
      replace e : (if ds.length = n then gs ds δ else none) = some δ' := e
      by_cases hl : ds.length = n
      · rw [if_pos hl] at e
        exact .inr ⟨a, xs, rfl, st, by rw [← w.length]; exact hl, L, h, δ, ds, r, s, w, δ', e, q⟩
      · rw [if_neg hl] at e; cases e
    | _ => cases e
structure DefN (P : Program) (w : World) (K : PySem.W.Frag) (mg : Str → Option Value) (base : Heap) (k : Nat) (n : Str) (m : List D → MH → R D) : Prop where
  ex : ∃ (f : Addr) (fd : FuncData) (ps : List Str), PySem.W.nsIn K mainGlobals n = some (some (.ref f)) ∧ FnM P w K mg base k f fd ps m ∧ PySem.W.keepIn K (.ref f) = true ∧ Binds K fd ps []
theorem DefN.mono {P : Program} {w : World} {mg : Str → Option Value} {base : Heap} {j k : Nat} {n : Str} {m : List D → MH → R D} (d : DefN P w K mg base j n m) (h : j ≤ k) : DefN P w K mg base k n m :=
  let ⟨f, fd, ps, a, b, c⟩ := d.ex
  ⟨f, fd, ps, a, FnM.mono b h, c⟩
def TabM (P : Program) (w : World) (K : PySem.W.Frag) (mg : Str → Option Value) (base : Heap) (k : Nat) (tab : List (Str × (List D → MH → R D))) : Prop := ∀ n m, tab.lookup n = some m → DefN P w K mg base k n m
theorem tab_nil {P : Program} {w : World} {mg : Str → Option Value} {base : Heap} {k : Nat} : TabM P w K mg base k [] := fun n m h => by cases h
theorem tab_cons {P : Program} {w : World} {mg : Str → Option Value} {base : Heap} {k : Nat} {n : Str} {m : List D → MH → R D} {tab : List (Str × (List D → MH → R D))} (d : DefN P w K mg base k n m) (t : TabM P w K mg base k tab) : TabM P w K mg base k ((n, m) :: tab) := fun n' m' h => by
  rw [List.lookup] at h
  split at h
  · rename_i z
    cases h
    have : n' = n := by simpa using z
    rw [this]; exact d
  · exact t n' m' h
def mCallV (tab : List (Str × (List D → MH → R D))) (mv : ME) (mas : MA) : ME := fun δ h => (mv δ h).bnd fun d h1 => match d with
  | .kon n => (match tab.lookup n with
    | some m => (mas δ h1).bnd fun ds h2 => m ds h2
    | none => .stuck)
  | _ => .stuck
theorem pem_callV {x : Str} {k : Nat} {tab : List (Str × (List D → MH → R D))} (hv : PEM X W (.Name x p) mv) (T : TabM X.prog X.w X.K X.mg X.base k tab) (hr : Room k X.A) (tk : L2N.Takes X W) (ha : PAM X W (e :: es) mas)
    (he : starEach (e :: es) X.env = (false, eval e X.env) :: starEach es X.env := by rfl) (hpl : (backTo pos (starEach es X.env)).any (·.1) = false := by rfl) : PEM X W (.Call (.Name x p) (e :: es) [] pos) (mCallV tab mv mas) := by
  refine ⟨fun pins s σ H Q I ⟨L, h, δ, r0, s0, a⟩ => ?_⟩
  refine wpAny_Call_Name_kw (thn (hv.run pins s σ H _ I ⟨L, h, δ, r0, s0, Ans.bind (rp := Rep X.K) a⟩) fun u s1 ⟨v, H1, I1, rv, L1, h1, d, x1, r1, p1, a1⟩ => ?_)
  cases d with
  | kon n =>
    simp only at a1
    cases et : tab.lookup n with
    | none => rw [et] at a1; exact a1.elim
    | some m =>
      rw [et] at a1
      obtain ⟨f, fd, ps, hn, F, hk, hb⟩ := (T n m et).ex
      have : v = .ref f := by
        unfold Rep at p1
        obtain ⟨a2, e1, e2⟩ := p1
        rw [hn] at e2
        cases e2
        exact e1
      subst this
      obtain rfl : u = Value.ref f := rv
      refine PySem.W.callWith_K (h₀ := X.base) I1.ok.mod.kin hk (thn (ha.run pos pins s1 σ H1 _ I1 ⟨L1, h1, δ, r1, s0.mono x1, Ans.bind (rp := RepL X.K) a1⟩) fun us s2 ⟨vs, H2, I2, r2, L2, h2, ds, x2, rr2, p2, a2⟩ => ⟨I2.kIn, ?_⟩) he hpl
      exact run_fnS (E := WE W) F hr hb (L2N.passAt tk σ) I2 r2 ⟨L2, h2, ds, rr2, p2, a2⟩
  | _ => exact a1.elim
end
end MM
set_option maxHeartbeats 2000000
namespace MM
open PySem PySem.Spec PyProof.Rows L2
open Classical in
section
variable {X : Cx} {W : WX} {ek ev tg iter : Expr} {ifs : List Expr} {scope : Scope} {own : List (Str × Nat)} {pos : Pos} {mi : MI} {S : List Nat} {g : MG} {cond : MT} {mk mv : ME}
end
end MM
set_option maxHeartbeats 2000000
namespace MM
open PySem PySem.Spec PyProof.Rows L2
structure DefKw (K : PySem.W.Frag) (mg : Str → Option Value) (x : Str) (st : Stmt) (f : Addr) (fd : FuncData) (kws : List (Str × V)) : Prop where
  fn : FunD K x x (defArgs st) (defBody st) (defScope st) [] kws f fd
  mg' : mg x = some (.ref f)
section
variable {P : Program} {w : World} {K : PySem.W.Frag} {mg : Str → Option Value} {base : Heap}
end
section
variable {X : Cx} {W : WX} {pos p kpos : Pos} {e : Expr} {es : List Expr} {me : ME} {mas mks : MA} {nm : Option Str} {kws : List Keyword}
theorem PK.imp {t t' : TA} (h : PK X kws t) (k : ∀ σ H Q, t' σ H Q → t σ H Q) : PK X kws t' := ⟨fun pos pins s σ H Q I q => h.run pos pins s σ H Q I (k σ H Q q)⟩
open Classical in
structure DefPd (K : PySem.W.Frag) (mg : Str → Option Value) (x : Str) (st : Stmt) (f : Addr) (fd : FuncData) (dd : List D) : Prop where
  ex : ∃ dvs : List V, FunD K x x (defArgs st) (defBody st) (defScope st) dvs [] f fd ∧ dvs ≠ [] ∧ dvs.length = dd.length ∧ ∀ L H, RepL K L H dd dvs
  mg' : mg x = some (.ref f)
end
end MM
set_option maxHeartbeats 2000000
namespace RT
open PySem PySem.Spec PyProof.Rows
section
variable {prog : Program} {w : World} {A : Around} {E : Value → Shared → Prop} {s : Shared}
theorem Walks.rt (hh : A.handled = none) (I t : Addr) (hne : t ≠ I) (items : Array Value) (hsz : items.size ≤ sizeLine) :
    Walks prog w A I [I, t] [I] items.size (fun i v => items[items.size - 1 - i]? = some v) (fun i h => i ≤ items.size ∧ IsRt h I t ((items.size : Int) - 1 - (i : Int)) ∧ IsTup h t items) where
  sub := fun b hb => by simp at hb; simp [hb]
  frame := fun _ _ _ x hk => ⟨x.1, x.2.1.at fun o e => hk I (by simp) o e, (let ⟨o, e, r⟩ := x.2.2; ⟨o, hk t (by simp) o e, r⟩)⟩
  item := fun i s Q E hi x hQ => by
    have e : (items.size : Int) - 1 - (i : Int) = ((items.size - 1 - i : Nat) : Int) := by omega
    have hit := x.2.1
    rw [e] at hit
    have hx : items[items.size - 1 - i]? = some (items[items.size - 1 - i]'(by omega)) := Array.getElem?_eq_getElem (by omega)
    refine next_rt_item hit x.2.2 hx hsz fun h' hit' hs' => ?_
    have e2 : ((items.size - 1 - i : Nat) : Int) - 1 = (items.size : Int) - 1 - ((i + 1 : Nat) : Int) := by omega
    rw [e2] at hit'
    exact hQ _ h' (s.toks + 1) hx ⟨hi, hit', (let ⟨o, e, r⟩ := x.2.2; ⟨o, (hs'.2 t hne).trans e, r⟩)⟩ fun b o hb eo => hs'.extBut b o (fun h => hb (by simp [h])) eo
  done := fun s Q E x hQ => by
    have e : (items.size : Int) - 1 - (items.size : Int) = -1 := by omega
    have hit := x.2.1
    rw [e] at hit
    exact next_rt_end hh hit fun h' he' => hQ h' s.toks fun b o hb eo => he' b o (fun h => hb (by simp [h])) eo
  self := fun _ _ _ _ x hQ => iter_rt x.2.1 hQ
end
end RT
namespace MM
open PySem PySem.Spec PyProof.Rows L2
section
variable {X : Cx}
end
end MM
set_option maxHeartbeats 2000000
namespace MZ
open PySem PySem.Spec PyProof.Rows
structure Sd (prog : Program) (w : World) where
  It : Heap → Addr → Addr → Nat → Prop
  Ct : Heap → Addr → Array Value → Prop
  lv : ∀ {h i l k}, It h i l k → ∃ o, h.get? i = some o ∧ ∀ v, o.data ≠ .cell v
  itK : ∀ {h h' i l k}, It h i l k → (∀ o, h.get? i = some o → h'.get? i = some o) → It h' i l k
  ctK : ∀ {h h' l xs}, Ct h l xs → (∀ o, h.get? l = some o → h'.get? l = some o) → Ct h' l xs
  one : ∀ {A : Around} {E : Value → Shared → Prop} {s : Shared} {i l : Addr} {k : Nat} {xs : Array Value} {x : Value} {Q : Value → Shared → Prop}, It s.heap i l k → Ct s.heap l xs → xs[k]? = some x →
    (∀ h', It h' i l (k + 1) → Heap.SameBut i s.heap h' → Q x { s with heap := h' }) → wpAny (model prog w) A (Builtin.SmallTypes.nextOf (.ref i)) Q E s
  over : ∀ {A : Around} {E : Value → Shared → Prop} {s : Shared} {i l : Addr} {k : Nat} {xs : Array Value} {Q : Value → Shared → Prop}, A.handled = none → It s.heap i l k → Ct s.heap l xs → xs[k]? = none →
    (∀ h' e, Heap.ExtBut i s.heap h' → (∃ o, h'.get? e = some o ∧ o.cls = .type "StopIteration") → E (.ref e) { s with heap := h' }) → wpAny (model prog w) A (Builtin.SmallTypes.nextOf (.ref i)) Q E s
section
variable {prog : Program} {w : World} {A : Around} {E : Value → Shared → Prop} {s : Shared} {S1 S2 : Sd prog w} {z TI TO i1 i2 l1 l2 : Addr} {k : Nat} {xs ys : Array Value} {x y a b : Value}
end
end MZ
namespace MZ
open PySem PySem.Spec PyProof.Rows
abbrev hm1 (h : Heap) (l1 : Addr) : Heap := h.push { cls := .type "tuple_iterator", data := .fields #[.ref l1, .int 0 0] }
abbrev hm2 (h : Heap) (l1 l2 : Addr) : Heap := (hm1 h l1).push { cls := .type "list_iterator", data := .fields #[.ref l2, .int 0 0] }
section
variable {prog : Program} {w : World} {A : Around} {E : Value → Shared → Prop} {s : Shared}
end
end MZ
namespace MM
open PySem PySem.Spec PyProof.Rows L2
section
variable {X : Cx} {W : WX} {e : Expr} {mas : MA}
end
end MM
set_option maxHeartbeats 2000000
namespace MSt
open PySem PySem.Spec PyProof.Rows L2
section
variable {prog : Program} {w : World} {A : Around} {E : Value → Shared → Prop} {s : Shared}
theorem rest_list {I ax : Addr} {its : Array Value} {T : String} {st : Nat → Heap → Prop} {u : Shared} {Q : List Value → Shared → Prop} (mayT : T = "str_ascii_iterator" ∨ T = "str_iterator" ∨ T = "list_iterator" ∨ T = "tuple_iterator")
    (W : Walks prog w A.in1 I [I, ax] [I] its.size (fun i v => its[i]? = some v) st) (ty : ∀ i (z : Shared), st i z.heap → z.TypeIs (.ref I) T) (one : 1 ≤ its.size) (now : st 1 u.heap) (lI : I < u.heap.objs.size) (la : ax < u.heap.objs.size) (small : its.size ≤ sizeLine)
    (fin : ∀ (h2 : Heap) (tk : Nat), (∀ b o, b ≠ I → u.heap.get? b = some o → h2.get? b = some o) → Q (its.toList.take 1 ++ [.ref h2.objs.size]) { u with heap := h2.push { cls := .type "list", data := .seq (its.toList.drop 1).toArray }, toks := tk }) :
    wpAny (model prog w) A (do
      let rest ← holding (its.toList.take 1) (collect (.ref I))
      let after := 2 - 1 - 1
      if rest.length < after then
        rule "unpack.star.too-few"
        raiseError "ValueError" s!"not enough values to unpack (expected at least {2 - 1}, got {1 + rest.length})"
      let mid := rest.length - after
      return its.toList.take 1 ++ [← newList (rest.take mid)] ++ rest.drop mid) Q E u := by
  refine wpAny_bind (wpAny_holding (PySem.W.kun_collect (k := 1) mayT W ty one now lI la (fun h2 tk kp => ?_) small))
  have e1 : (its.toList.drop 1).take ((its.toList.drop 1).length - (2 - 1 - 1)) = its.toList.drop 1 := by rw [List.take_of_length_le (by omega)]
  have e2 : (its.toList.drop 1).drop ((its.toList.drop 1).length - (2 - 1 - 1)) = [] := List.drop_of_length_le (by omega)
  show wpAny _ _ (if (its.toList.drop 1).length < 2 - 1 - 1 then _ else _) _ _ _
  rw [if_neg (Nat.not_lt_zero _)]
  show wpAny _ _ (newList ((its.toList.drop 1).take ((its.toList.drop 1).length - (2 - 1 - 1))) >>= fun d => pure (its.toList.take 1 ++ [d] ++ (its.toList.drop 1).drop ((its.toList.drop 1).length - (2 - 1 - 1)))) _ _ _
  rw [e1, e2]
  refine wpAny_bind (wpAny_newList (wpAny_pure ?_) (by rw [List.length_drop, Array.length_toList]; omega))
  rw [List.append_nil]
  exact fin h2 tk kp
theorem star_tup {t : Addr} {its : Array Value} {Q : List Value → Shared → Prop} (hh : A.handled = none) (ht : IsTup s.heap t its) (one : 1 ≤ its.size) (small : its.size ≤ sizeLine)
    (fin : ∀ (h2 : Heap) (tk : Nat), (∀ b o, s.heap.get? b = some o → h2.get? b = some o) → Q (its.toList.take 1 ++ [.ref h2.objs.size]) { s with heap := h2.push { cls := .type "list", data := .seq (its.toList.drop 1).toArray }, toks := tk }) :
    wpAny (model prog w) A (unpackItems (.ref t) 2 (some 1)) Q E s := by
  have lt : t < s.heap.objs.size := let ⟨_, q, _⟩ := ht; Heap.lt_size q
  have ne : t ≠ s.heap.objs.size := Nat.ne_of_lt lt
  unfold unpackItems notIterableAtAll
  refine wpAny_bind (wpAny_bind (wpAny_specialOf ht.typeIs slot_tuple_iter.lookup (wpAny_pure ?_)))
  simp only [Bool.false_eq_true, if_false]
  refine wpAny_bind (wpAny_holding (iter_tuple ht (wpAny_bind (wpAny_holding (draw_tuple ne 1 0 _ _ ⟨_, Heap.get?_push_size _ rfl, rfl, rfl⟩ (ht.push _) (by omega) fun h1 i1 s1 => ?_)))))
  rw [List.drop_zero, Nat.zero_add] at *
  have t1 : IsTup h1 t its := (ht.push _).extBut s1.extBut ne
  have l1 : (its.toList.take 1).length = 1 := by rw [List.length_take, Array.length_toList]; omega
  rw [if_neg (by rw [l1]; omega)]
  obtain ⟨_, q1, _⟩ := id i1
  obtain ⟨_, q2, _⟩ := id t1
  refine rest_list (u := { s with heap := h1 }) (T := "tuple_iterator") (.inr (.inr (.inr rfl))) (Walks.tuple (A := A.in1) hh s.heap.objs.size t ne its) (fun _ _ z => z.1.typeIs) one ⟨i1, t1⟩ (Heap.lt_size q1) (Heap.lt_size q2) small fun h2 tk kp => fin h2 tk fun b o e => ?_
  have nb : b ≠ s.heap.objs.size := Nat.ne_of_lt (Heap.lt_size e)
  exact kp b o nb (s1.extBut b o nb (Heap.get?_push_of_some _ e))
theorem star_lst {t : Addr} {its : Array Value} {Q : List Value → Shared → Prop} (hh : A.handled = none) (ht : s.heap.IsList t its) (one : 1 ≤ its.size) (small : its.size ≤ sizeLine)
    (fin : ∀ (h2 : Heap) (tk : Nat), (∀ b o, s.heap.get? b = some o → h2.get? b = some o) → Q (its.toList.take 1 ++ [.ref h2.objs.size]) { s with heap := h2.push { cls := .type "list", data := .seq (its.toList.drop 1).toArray }, toks := tk }) :
    wpAny (model prog w) A (unpackItems (.ref t) 2 (some 1)) Q E s := by
  have lt : t < s.heap.objs.size := let ⟨_, q, _⟩ := ht; Heap.lt_size q
  have ne : t ≠ s.heap.objs.size := Nat.ne_of_lt lt
  unfold unpackItems notIterableAtAll
  refine wpAny_bind (wpAny_bind (wpAny_specialOf ht.typeIs slot_list_iter.lookup (wpAny_pure ?_)))
  simp only [Bool.false_eq_true, if_false]
  refine wpAny_bind (wpAny_holding (wpAny_pyIter_list ht (wpAny_bind (wpAny_holding (PySem.W.kun_draw ne 1 0 _ _ ⟨_, Heap.get?_push_size _ rfl, rfl, rfl⟩ (ht.push _) (by omega) fun h1 i1 s1 => ?_)))))
  rw [List.drop_zero, Nat.zero_add] at *
  have t1 : h1.IsList t its := (ht.push _).extBut s1.extBut ne
  have l1 : (its.toList.take 1).length = 1 := by rw [List.length_take, Array.length_toList]; omega
  rw [if_neg (by rw [l1]; omega)]
  obtain ⟨_, q1, _⟩ := id i1
  obtain ⟨_, q2, _⟩ := id t1
  refine rest_list (u := { s with heap := h1 }) (T := "list_iterator") (.inr (.inr (.inl rfl))) (Walks.list (A := A.in1) hh s.heap.objs.size t ne its) (fun _ _ z => z.1.typeIs) one ⟨i1, t1⟩ (Heap.lt_size q1) (Heap.lt_size q2) small fun h2 tk kp => fin h2 tk fun b o e => ?_
  have nb : b ≠ s.heap.objs.size := Nat.ne_of_lt (Heap.lt_size e)
  exact kp b o nb (s1.extBut b o nb (Heap.get?_push_of_some _ e))
end
section
variable {X : Cx} {pos : Pos}
def gStar (K : PySem.W.Frag) (t : TGs) : TG := fun v σ H Q => ∃ a x xs, v = .ref a ∧ (SqT K H a (x :: xs) ∨ SqL K H a (x :: xs)) ∧ xs.length + 1 ≤ sizeLine ∧ ∀ q, H q = none → t [x, .ref q] σ (upd H q (.lst xs)) Q
theorem pg_star {es : List Expr} {k : Nat} {t : TGs} (hc : X.calm = true) (h : PGs X es t) (hn : (assignEach es X.env).length = 2 := by rfl) (hst : (assignEach es X.env).findIdx? (·.1) = some 1 := by rfl) : PG X (.Tuple es k pos) (gStar X.K t) := by
  refine ⟨fun pins s σ H v u Q I r hw => ?_⟩
  obtain ⟨a, x, xs, e1, sq, sm, hw⟩ := hw
  subst e1
  cases r
  rw [PyProof.Rows.assign_Tuple]
  refine wpAny_bind (wpAny_standAt ?_)
  unfold unpack
  rw [hn, hst]
  have fin : ∀ (its : Array Value), Vals (x :: xs) its.toList → ∀ (h2 : Heap) (tk : Nat), (∀ b o, s.heap.get? b = some o → h2.get? b = some o) →
      wpAny (model X.prog X.w) X.A (assignInOrder ((assignEach es X.env).map (·.2)) (its.toList.take 1 ++ [.ref h2.objs.size])) (fun _ s' => ∃ σ' H', Inv X pins σ' H' s' ∧ Q σ' H') X.xe
        { s with heap := h2.push { cls := .type "list", data := .seq (its.toList.drop 1).toArray }, toks := tk } := fun its rv h2 tk kp => by
    have I1 : Inv X pins σ H { s with heap := h2, toks := tk } := I.kept kp
    have hf : H h2.objs.size = none := I1.hok.fresh (Nat.le_refl _)
    generalize hz : its.toList = zs at rv ⊢
    cases rv with
    | cons r1 rr =>
      rename_i v1 vr
      have I2 : Inv X pins σ (upd H h2.objs.size (.lst xs)) { s with heap := h2.push { cls := .type "list", data := .seq (vr).toArray }, toks := tk } :=
        I1.laid (h' := h2.push { cls := .type "list", data := .seq (vr).toArray }) (fun b o e => Heap.get?_push_of_some _ e) (Nat.le_refl _) ⟨by omega, vr, 0, rr, Heap.get?_push_size _ rfl⟩
      exact h.run pins _ σ _ [x, .ref h2.objs.size] _ Q I2 (.cons r1 (.cons rfl .nil)) (hw _ hf)
  rcases sq with sq | sq
  · obtain ⟨its, rv, ht, hz⟩ := I.tuple sq
    have l := rv.length
    refine wpAny_bind (wpAny_holding (star_tup (its := its.toArray) (I.ok.hd hc) ht (by simp at l ⊢; omega) (by simp at l ⊢; omega) (fin its.toArray (by simpa using rv))))
  · obtain ⟨its, rv, pl, hz⟩ := I.list sq
    have l := rv.length
    refine wpAny_bind (wpAny_holding (star_lst (its := its.toArray) (I.ok.hd hc) pl.isList (by simp at l ⊢; omega) (by simp at l ⊢; omega) (fin its.toArray (by simpa using rv))))
end
end MSt
namespace MM
open PySem PySem.Spec PyProof.Rows L2
section
variable {X : Cx} {W : WX} {pos p : Pos} {e o : Expr} {es : List Expr} {me mo mf mv : ME} {mas : MA}
def mAsgStar (i j : Nat) (m : ME) : MSt := fun δ h => (m δ h).st δ fun d h1 => match seqG d h1 with
  | some (x :: xs) => if xs.length < 16777216 then .ok (.next ((δ.set i (some x)).set j (some (.rol xs)))) h1 else .stuck
  | _ => .stuck
theorem psm_asgStar (i j : Nat) {x y : Str} {p1 p2 p3 p4 : Pos} {k : Nat} (hc : X.calm = true) (hN : X.N.Nodup) (he : PEM X W e me) (hi : X.N[i]? = some x := by rfl) (hj : X.N[j]? = some y := by rfl)
    (hx : Loc X.env.scope x := by first | exact Or.inl rfl | exact Or.inr rfl) (hy : Loc X.env.scope y := by first | exact Or.inl rfl | exact Or.inr rfl)
    (fx : X.fn x = true ∨ X.env.scope.names.lookup x = some .local := by first | exact .inl rfl | exact .inr rfl) (fy : X.fn y = true ∨ X.env.scope.names.lookup y = some .local := by first | exact .inl rfl | exact .inr rfl)
    (hs : swapsWithSole [.Tuple [.Name x p1, .Starred (.Name y p2) p3] k p4] e pos.line X.env = pure false := by rfl) (hw : swappedStores [.Tuple [.Name x p1, .Starred (.Name y p2) p3] k p4] e X.env = pure none := by rfl) :
    PSM X W (.Assign [.Tuple [.Name x p1, .Starred (.Name y p2) p3] k p4] e pos) (mAsgStar i j me) := by
  have base : PGs X [.Name x p1, .Name y p2] (gCons (gName i) (gCons (gName j) gNil)) := pgs_cons (pg_name hN hi hx fx) (pgs_cons (pg_name hN hj hy fy) pgs_nil)
  have pgs : PGs X [.Name x p1, .Starred (.Name y p2) p3] (gCons (gName i) (gCons (gName j) gNil)) := ⟨fun pins s σ H vs us Q I r h => base.run pins s σ H vs us Q I r h⟩
  refine PS.imp (ps_asg he (MSt.pg_star hc pgs) hs hw rfl) fun D σ H ⟨L, h, δ, r, s, a⟩ => ⟨L, h, δ, r, s, Ans.imp (AnsS.bind (rp := Rep X.K) s a) fun v H1 ⟨L1, h1, d, x1, r1, q1, s1, a1⟩ => ?_⟩
  split at a1
  · rename_i dx dxs eg
    split at a1
    · rename_i z
      obtain ⟨q, vs, rfl, sq, w⟩ := seqG_of r1 q1 eg
      obtain ⟨vx, vxs, rfl, px, pxs⟩ := w.cons_inv
      refine ⟨q, vx, vxs, rfl, sq.symm, by rw [← pxs.length, sizeLine_eq]; exact z, fun q2 hq => ?_⟩
      obtain ⟨x3, r3, q3⟩ := rep_rol r1 hq pxs
      exact ⟨_, _, rfl, _, _, rfl, rfl, (a1.mono x3).nx r3 (((s1.mono x3).set (px.mono x3)).set q3)⟩
    · exact a1.elim
  · exact a1.elim
end
end MM
namespace MM
open PySem PySem.Spec PyProof.Rows L2
section
variable {K : PySem.W.Frag}
end
section
variable {X : Cx} {W : WX} {o e : Expr} {mo me : ME}
end
end MM
namespace MM
open PySem PySem.Spec PyProof.Rows L2
def mWith (C : Str) (me mx : List D → MH → R D) (mc : ME) (g : MG) (b : MSt) : MSt := fun δ h => (mc δ h).st δ fun d h1 => match insO h1 d with
  | some (_, C', _) => if C' = C then (me [d] h1).st δ fun v h2 => (match g v δ with
    | some δ1 => (match b δ1 h2 with
      | .ok (.next δ2) h3 => (mx [d, .non, .non, .non] h3).st δ2 fun _ h4 => .ok (.next δ2) h4
      | _ => .stuck)
    | none => .stuck) else .stuck
  | none => .stuck
section
variable {X : Cx} {W : WX} {Ca fe fx : Addr} {C qe qx y : Str} {fl pse psx : List Str} {ste stx : Stmt} {fde fdx : FuncData} {me mx : List D → MH → R D} {mc : ME} {g : MG} {b : MSt} {S : List Nat} {ctx : Expr} {py pos : Pos} {body : List Stmt} {k : Nat}
theorem psm_with (c : ClsT X.K C Ca fl) (Fe : FnM X.prog X.w X.K X.mg X.base k fe fde pse me) (De : MthAt X.K Ca "__enter__" qe ste fe fde pse) (Fx : FnM X.prog X.w X.K X.mg X.base k fx fdx psx mx) (Dx : MthAt X.K Ca "__exit__" qx stx fx fdx psx) (hr : Room k X.A) (tk : L2N.Takes X W)
    (hc : PEM X W ctx mc) (hg : PGM X.nox (.Name y py) S g) (hb : ∀ (W : WX) (pn : List (Addr × Obj)) (xe : Value → Shared → Prop), L2N.Takes (X.tr pn xe) W → PassesOwn (model X.prog X.w) X.A X.env xe → PSsM (X.tr pn xe) W body b) :
    PSM X W (.With [⟨ctx, some (.Name y py)⟩] body pos) (mWith C me mx mc g b) := by
  refine ⟨fun pins s σ H D I ⟨L, h, δ, r0, s0, a⟩ => ?_⟩
  refine PySem.W.kw_execN (thn (hc.run pins s σ H _ I ⟨L, h, δ, r0, s0, AnsS.bind (rp := Rep X.K) s0 a⟩) fun u s1 ⟨v, H1, I1, rv, L1, h1, d, x1, r1, p1, t1, a1⟩ => ?_)
  cases ei : insO h1 d with
  | none => simp only [ei] at a1; exact a1.elim
  | some q =>
    obtain ⟨n, C', fs⟩ := q
    simp only [ei] at a1
    by_cases z : C' = C
    · rw [if_pos z] at a1
      subst z
      obtain ⟨ad, dx, Ca', ws, rfl, e1, e2, w, hC⟩ := insO_of r1 p1 ei
      have e := c.at'
      rw [hC] at e
      cases e
      obtain rfl : u = Value.ref ad := rv
      obtain ⟨mA, O, _⟩ := ins_get I1.hok e2
      obtain ⟨od, J, _⟩ := O.look
      unfold PySem.W.KwIn
      refine PySem.W.kw_core (b := assign (.Name y py) X.env) I1.kIn J De.me.at_ De.me.fn Dx.me.at_ Dx.me.fn ?_
      refine thn (run_fnS (us := [.ref ad]) (vs := [.ref ad]) Fe hr De.bi (L2N.passAt tk σ) I1 (.cons rfl .nil) ⟨L1, h1, [d], r1, .cons p1 .nil, AnsS.bind (rp := Rep X.K) t1 a1⟩) fun u2 s2 ⟨v2, H2, I2, rv2, L2, h2, d2, x2, r2, p2, t2, a2⟩ => ?_
      cases eg : g d2 δ with
      | none => simp only [eg] at a2; exact a2.elim
      | some δ1 =>
        simp only [eg] at a2
        refine thn (hg.run pins s2 σ H2 v2 u2 (fun σ' H' => H' = H2 ∧ RepS X.K L2 H2 δ1 σ') (I2.wish _) rv2 ⟨L2, h2, δ, d2, r2, t2, p2, δ1, eg, fun σ' q _ => ⟨rfl, q⟩⟩) fun _ s3 ⟨σ3, H3, I3, eH, t3⟩ => ?_
        subst eH
        cases eb : b δ1 h2 with
        | stuck => simp only [eb] at a2; exact a2.elim
        | exc _ _ _ _ => simp only [eb] at a2; exact a2.elim
        | ok f h3 =>
          cases f with
          | ret _ => simp only [eb] at a2; exact a2.elim
          | brk _ => simp only [eb] at a2; exact a2.elim
          | cont _ => simp only [eb] at a2; exact a2.elim
          | next δ2 =>
            simp only [eb] at a2
            have run := (hb W0 X.pn (fun _ _ => False) takes0N PassesOwn.never).run pins s3 σ3 H3 { nx := fun σ' H' => ∃ L', Ext L2 H3 L' H' ∧ Rel X.K L' H' h3 ∧ RepS X.K L' H' δ2 σ', rt := fun _ _ => False, bk := fun _ _ => False, ct := fun _ _ => False } I3 ⟨L2, h2, δ1, r2, t3, by
              rw [eb]; exact fun L' H' σ' x r q => ⟨L', x, r, q⟩⟩
            refine wpAny_mono run (fun f s4 hsp => ?_) fun _ _ z => z
            cases f with
            | next =>
              obtain ⟨σ4, H4, I4, L4, x4, r4, t4⟩ := hsp
              have I4' : Inv X pins σ4 H4 s4 := I4.unwish
              refine thn (run_fnS (us := [.ref ad, .none, .none, .none]) (vs := [.ref ad, .non, .non, .non]) Fx hr Dx.bi (L2N.passAt tk σ4) I4' (.cons rfl (.cons rfl (.cons rfl (.cons rfl .nil)))) ⟨L4, h3, [d, .non, .non, .non], r4, .cons ((p1.mono x2).mono x4) (.cons rep_none (.cons rep_none (.cons rep_none .nil))), AnsS.bind (rp := Rep X.K) t4 (a2.mono x4)⟩) fun u5 s5 ⟨v5, H5, I5, rv5, L5, h5, d5, x5, r5, p5, t5, a5⟩ => ?_
              exact ⟨σ4, H5, I5, a5.nx r5 t5⟩
            | brk => obtain ⟨_, _, _, z⟩ := hsp; exact z.elim
            | cont => obtain ⟨_, _, _, z⟩ := hsp; exact z.elim
            | ret _ => obtain ⟨_, _, _, _, _, z⟩ := hsp; exact z.elim
    · rw [if_neg z] at a1; exact a1.elim
def mTryP (body : MSt) (hit : Str → Option Bool) (suite : MSt) : MSt := fun δ h => match body δ h with
  | .exc c _ δ' h' => (match hit c with
    | some true => (match suite δ' h' with
      | .ok f h2 => .ok f h2
      | _ => .stuck)
    | _ => .stuck)
  | r => r
theorem psm_tryP {x : Str} {A : Addr} {stm : List Stmt} {b₀ : Stmt} {suite : List Stmt} {np pos' : Pos} {mb ms : MSt} (T : XTry X.K X.mg x fl A) (hs : X.stack = X.env :: X.outer) (hf : X.env.frame = some X.env.locals) (hg : Gl X x) (hd : (x == ("__debug__" : Str)) = false) (tk : L2N.Takes X W)
    (hb : ∀ (W : WX) (pn : List (Addr × Obj)) (xe : Value → Shared → Prop), L2N.Takes (X.tr pn xe) W → PassesOwn (model X.prog X.w) X.A X.env xe → PSsM (X.tr pn xe) W stm mb)
    (hsu : ∀ (a : Addr) (pn : List (Addr × Obj)), PSsM (X.suite a pn) W0 (b₀ :: suite) ms) :
    PSM X W (.Try stm [.ExceptHandler (some (.Name x np)) none (b₀ :: suite) pos'] [] [] pos) (mTryP mb (hitOne x) ms) := by
  have base := L2N.ps_try_many (pos := pos) (Wout := W) (tb := fun W => tS X.K W mb) hs hf tk (fun W pn xe t p => hb W pn xe t p)
    (.cons (x := x) (c := .ref A) (ts := fun _ _ _ => fun D σ H => tS X.K W0 ms D σ H) (b₀ := b₀) (suite := suite) (np := np) (pos' := pos') ⟨hg, hd, .inl T.mg'⟩ (fun a oe cls d pn _ _ => ⟨fun pins s σ H D I t => (hsu a _).run pins s σ H D I t⟩) .nil)
  refine PS.imp base fun D σ H ⟨L, h, δ, r0, s, a⟩ => ⟨L, h, δ, r0, s, ?_⟩
  unfold mTryP at a
  generalize mb δ h = res at a ⊢
  cases res with
  | stuck => exact a
  | ok f h' => exact a
  | exc c2 fs δ' h' =>
    intro L' H' σ' dx xs ex r' s' e q ev hev
    cases hc : hitOne x c2 with
    | none => simp only [hc] at a; exact a.elim
    | some bb =>
    cases bb with
    | false => simp only [hc] at a; exact a.elim
    | true =>
    simp only [hc] at a
    have ee : ev = .ref A := by
      obtain ⟨a2, e, na⟩ := hev
      unfold hitOne at hc
      split at hc
      · rename_i z
        rw [z, T.at'] at na
        rw [e]
        cases na
        rfl
      · cases hc
    subst ee
    refine ⟨true, PySem.W.exm_ref T.xf.exC T.xf.hdC T.ty T.own, fun _ a1 na => ?_, fun z => nomatch z⟩
    refine ⟨L', h', δ', r', s', AnsS.mono ex ?_⟩
    generalize ms δ' h' = out at a ⊢
    cases out with
    | stuck => exact a
    | ok f h3 => exact a
    | exc _ _ _ _ => exact a.elim
end
end MM
namespace MM
open PySem PySem.Spec PyProof.Rows L2
def atomP : D → Option PyData
  | .str s => some (.str s)
  | .int i => some (.int i)
  | _ => none
def atomsP : List D → Option (List PyData)
  | [] => some []
  | d :: ds => (atomP d).bind fun p => (atomsP ds).map (p :: ·)
def rowP : D → Option PyData
  | .tup ds => (atomsP ds).map .tuple
  | _ => none
def rowsP : List D → Option (List PyData)
  | [] => some []
  | d :: ds => (rowP d).bind fun p => (rowsP ds).map (p :: ·)
def ShowOk (p : PyData) : Prop := p.showable = true ∧ p.hasDict = false ∧ p.depth ≤ 10 ∧ p.shown.length ≤ sizeLine
open Classical in
noncomputable def fRepr (ds : List D) (h : MH) : R D := match ds with
  | [d] => (match (lstD d h).bind rowsP with
    | some ps => if ShowOk (.list ps) then .ok (.str (PyData.list ps).shown) h else .stuck
    | none => .stuck)
  | _ => .stuck
inductive All2 {α β : Type} (r : α → β → Prop) : List α → List β → Prop
  | nil : All2 r [] []
  | cons {a b l m} : r a b → All2 r l m → All2 r (a :: l) (b :: m)
def RdA (v : V) (p : PyData) : Prop := (∃ s, v = .str s ∧ p = .str s) ∨ ∃ i, v = .int i ∧ p = .int i
def RdT (K : PySem.W.Frag) (H : Hp) (v : V) (p : PyData) : Prop := ∃ a ys ps, v = .ref a ∧ SqT K H a ys ∧ p = .tuple ps ∧ All2 RdA ys ps
def rRepr (K : PySem.W.Frag) : List V → Hp → VK → Prop := fun xs H Q => ∃ a ys ps, xs = [.ref a] ∧ SqL K H a ys ∧ All2 (RdT K H) ys ps ∧ ShowOk (.list ps) ∧ Q (.str (PyData.list ps).shown) H
section
variable {X : Cx} {pins : List (Addr × Obj)} {σ : L2.St} {H : Hp} {s : Shared}
theorem reads_atoms {h : Heap} : ∀ {ys : List V} {ps : List PyData} {us : List Value}, All2 RdA ys ps → Vals ys us → ∃ as, ReadsAll h us ps as
  | _, _, _, .nil, .nil => ⟨_, .nil⟩
  | _, _, _, .cons a f, .cons r t => by
    obtain ⟨as, q⟩ := reads_atoms f t
    rcases a with ⟨s, rfl, rfl⟩ | ⟨i, rfl, rfl⟩
    · obtain ⟨t, rfl⟩ := r; exact ⟨_, .cons (.str s t) q⟩
    · obtain ⟨t, rfl⟩ := r; exact ⟨_, .cons (.int i t) q⟩
theorem reads_row (I : Inv X pins σ H s) {v : V} {u : Value} {p : PyData} (f : RdT X.K H v p) (r : RelV v u) : ∃ as, Reads s.heap u p as := by
  obtain ⟨a, ys, ps, rfl, S, rfl, f⟩ := f
  obtain rfl : u = Value.ref a := r
  obtain ⟨its, rv, ⟨o, e, hc, n, hd⟩, _⟩ := I.tuple S
  obtain ⟨as, q⟩ := reads_atoms (h := s.heap) f rv
  exact ⟨_, .tuple e hc hd (by simpa using q)⟩
theorem reads_rows (I : Inv X pins σ H s) : ∀ {ys : List V} {ps : List PyData} {us : List Value}, All2 (RdT X.K H) ys ps → Vals ys us → ∃ as, ReadsAll s.heap us ps as
  | _, _, _, .nil, .nil => ⟨_, .nil⟩
  | _, _, _, .cons a f, .cons r t => by
    obtain ⟨as, q⟩ := reads_rows I f t
    obtain ⟨bs, q2⟩ := reads_row I a r
    exact ⟨_, .cons q2 q⟩
theorem call_repr_rows (hg : X.A.guards = some []) (hu : X.A.units + 20 < cLine) : CallR X (.builtin "repr") (rRepr X.K) := by
  intro pins s σ H xs us Q I r h
  obtain ⟨a, ys, ps, rfl, S, f, ok, q⟩ := h
  obtain ⟨u, rfl, r1⟩ := vals1 r
  obtain rfl : u = Value.ref a := r1
  obtain ⟨its, rv, ⟨o, n, e, hc, _, hd⟩, _⟩ := I.list S
  obtain ⟨as, q2⟩ := reads_rows I f rv
  exact PySem.repr_of_reads' (.list e hc hd (by simpa using q2)) ok.1 (fun z => by rw [ok.2.1] at z; cases z) hg (by have := ok.2.2.1; omega) (fun _ _ e => e) (fun h' u tk k => ⟨.str _, H, I.kept k, ⟨_, rfl⟩, q⟩) ok.2.2.2
end
section
variable {K : PySem.W.Frag} {L : TL} {H : Hp}
theorem atoms_of : ∀ {ds : List D} {ys : List V} {ps : List PyData}, RepL K L H ds ys → atomsP ds = some ps → All2 RdA ys ps
  | [], _, _, w, e => by
    rw [w.nil_inv]; cases e; exact .nil
  | d :: ds, _, _, w, e => by
    obtain ⟨v, ws, rfl, q, w2⟩ := w.cons_inv
    unfold atomsP at e
    obtain ⟨p, e1, e2⟩ := Option.bind_eq_some_iff.mp e
    obtain ⟨ps, e3, rfl⟩ := Option.map_eq_some_iff.mp e2
    refine .cons ?_ (atoms_of w2 e3)
    unfold atomP at e1
    split at e1
    · cases e1; exact .inl ⟨_, q, rfl⟩
    · cases e1; exact .inr ⟨_, q, rfl⟩
    · cases e1
theorem rows_of : ∀ {ds : List D} {ys : List V} {ps : List PyData}, RepL K L H ds ys → rowsP ds = some ps → All2 (RdT K H) ys ps
  | [], _, _, w, e => by
    rw [w.nil_inv]; cases e; exact .nil
  | d :: ds, _, _, w, e => by
    obtain ⟨v, ws, rfl, q, w2⟩ := w.cons_inv
    unfold rowsP at e
    obtain ⟨p, e1, e2⟩ := Option.bind_eq_some_iff.mp e
    obtain ⟨ps, e3, rfl⟩ := Option.map_eq_some_iff.mp e2
    refine .cons ?_ (rows_of w2 e3)
    unfold rowP at e1
    split at e1
    · obtain ⟨qs, e4, rfl⟩ := Option.map_eq_some_iff.mp e1
      obtain ⟨a, xs, rfl, s, w⟩ := tup_of q
      exact ⟨a, xs, qs, rfl, s, rfl, atoms_of w e4⟩
    · cases e1
theorem fRepr_ok : CallM K (rRepr K) fRepr := by
  intro L H h ds vs Q E r w a
  unfold fRepr at a
  split at a
  · rename_i d
    obtain ⟨v, rfl, q⟩ := w.one
    cases e : (lstD d h).bind rowsP with
    | none => simp only [e] at a; exact a.elim
    | some ps =>
      simp only [e] at a
      obtain ⟨es, e1, e2⟩ := Option.bind_eq_some_iff.mp e
      obtain ⟨p, xs, rfl, s, w2⟩ := lstD_of r q e1
      split at a
      · rename_i z
        exact ⟨p, xs, ps, rfl, s, rows_of w2 e2, z, ans_okE r rep_str a⟩
      · exact a.elim
  · exact a.elim
end
end MM
namespace MM
open PySem PySem.Spec PyProof.Rows L2
theorem units20 {k : Nat} {A : Around} (hr : Room k A) : A.units + 20 < cLine := by have := hr.un; omega
structure FnG (P : Program) (w : World) (K : PySem.W.Frag) (mg : Str → Option Value) (base : Heap) (k : Nat) (f : Addr) (fd : FuncData) (ps : List Str) (sp : Sp) : Prop where
  run : ∀ (A : Around) (outer : List Env) (s : Shared) (H : Hp) (as : Args) (us : List Value) (vs : List V) (Q : VK) (E : XK), A.guards = some [] → Room k A → Env0 P w K mg base A outer s H →
    BindsTo s fd as (ps.zip us) → Vals vs us → sp vs H Q E → codeAny (model P w) A (.call (.ref f) as) (CR (L2N.CX P w) outer P w H s Q E) s
abbrev FnGM (P : Program) (w : World) (K : PySem.W.Frag) (mg : Str → Option Value) (base : Heap) (k : Nat) (f : Addr) (fd : FuncData) (ps : List Str) (m : List D → MH → R D) : Prop := FnG P w K mg base k f fd ps (spOf K m)
section
variable {P : Program} {w : World} {K : PySem.W.Frag} {mg : Str → Option Value} {base : Heap} {x qn : Str} {st : Stmt} {f : Addr} {fd : FuncData} {N ps : List Str} {k : Nat}
theorem fnG_of {sp : Sp} (F : Fun K x qn st f fd) (S : FnScope N ps (defScope st)) (len : ∀ vs H Q E, sp vs H Q E → vs.length = ps.length)
    (bd : ∀ (cdv : Value) (A : Around) (outer : List Env) (s : Shared) (H : Hp) (vs : List V) (Q : VK) (E : XK), A.guards = some [] → Room k (A.deeper (envOfC qn (defScope st) s.heap.objs.size f cdv)) → sp vs H Q E →
      ∃ t, PSs (cxOf (L2N.CX P w) P w K mg base N qn (defScope st) f cdv A outer s H E) (defBody st) t ∧ t { nx := fun _ H' => Q .non H', rt := Q } (L2.start N vs) H) : FnG P w K mg base (k + 1) f fd ps sp := by
  obtain ⟨oc, od, kV, doc, pm, an, cdv, ct, osl, rfl, lk, hcd⟩ := F.ex
  constructor
  intro A outer s H as us vs Q E gd hr e0 hb r want
  have KX : K.In s.heap := e0.mod.kin.keeps fun b o e => (e0.bs b o e).1
  refine codeAny_call_function hr.depth (KX _ _ lk) rfl S.co S.gen rfl (PySem.W.codeRec_of KX hcd) (hb _ _ _ _ (wpAny_newFunctionEnv_cells S.kind ?kd fun env he s1 z => ?go))
  case kd =>
    rintro ⟨n, v⟩ hy
    exact (S.par n (List.of_mem_zip hy).1).imp id fun q => ⟨q, PySem.W.cellsFrom_some _ _ _ (.inl q)⟩
  case go =>
    subst he
    refine ⟨(e0.mod.nolimit.keeps fun b o e => (e0.bs b o e).1).keeps z.toInCall.keep, codeAny_func ?_⟩
    obtain ⟨t, ht, hq⟩ := bd cdv A outer s H vs Q E gd (hr.deeper _) want
    have I := inv_start (CX := L2N.CX P w) (E := E) (f := f) (cd := cdv) (qual := qn) S hr.hd e0 (len _ _ _ _ want) r z
    refine wpAny_mono (ht.run [] s1 _ H _ I hq) (fun fl s' hs => ?_) fun _ _ z => z
    cases fl with
    | ret u => obtain ⟨v, σ', H', J, rv, q⟩ := hs; exact ⟨v, H', J.os, J.bare, J.base, J.hok, rv, q⟩
    | next => obtain ⟨σ', H', J, q⟩ := hs; exact ⟨.non, H', J.os, J.bare, J.base, J.hok, rfl, q⟩
    | brk => exact hs.elim fun _ h => h.elim fun _ h => h.2.elim
    | cont => exact hs.elim fun _ h => h.elim fun _ h => h.2.elim
theorem fnG_body {m : MSt} {g : List D → MH → R D} (F : Fun K x qn st f fd) (S : FnScope N ps (defScope st))
    (hg : ∀ ds h, g ds h = .stuck ∨ (ds.length = ps.length ∧ (g ds h = mEnd h (m (mStart N.length ds) h) ∨ g ds h = mEndN (m (mStart N.length ds) h))))
    (body : ∀ (cdv : Value) (A : Around) (outer : List Env) (s : Shared) (H : Hp) (E : XK), A.guards = some [] → Room k (A.deeper (envOfC qn (defScope st) s.heap.objs.size f cdv)) →
      L2N.Takes (cxOf (L2N.CX P w) P w K mg base N qn (defScope st) f cdv A outer s H E) (fun c d _ H => E c d H) →
      PassesOwn (model P w) (A.deeper (envOfC qn (defScope st) s.heap.objs.size f cdv)) (envOfC qn (defScope st) s.heap.objs.size f cdv) (cxOf (L2N.CX P w) P w K mg base N qn (defScope st) f cdv A outer s H E).xe →
      PSsM (cxOf (L2N.CX P w) P w K mg base N qn (defScope st) f cdv A outer s H E) (fun c d _ H => E c d H) (defBody st) m) : FnGM P w K mg base (k + 1) f fd ps g := by
  refine fnG_of F S (fun vs H Q E ⟨L, h, ds, r, q, a⟩ => ?_) fun cdv A outer s H vs Q E gd hr ⟨L, h, ds, r, q, a⟩ => ?_
  · rcases hg ds h with z | z
    · rw [z] at a; exact a.elim
    · rw [← q.length]; exact z.1
  · refine ⟨_, body cdv A outer s H E gd hr (L2N.takes_of rfl rfl rfl rfl) (passes_of rfl), L, h, mStart N.length ds, r, repS_start q, ?_⟩
    rcases hg ds h with z | ⟨_, z | z⟩
    · rw [z] at a; exact a.elim
    · rw [z] at a
      generalize m (mStart N.length ds) h = out at a ⊢
      cases out with
      | stuck => exact a.elim
      | exc c fs δ h' =>
        unfold mEnd leaveX at a
        simp only at a
        split at a
        · rename_i zz
          intro L' H' σ' dx xs e r' _ q1 q2
          obtain ⟨x1, r1⟩ := r.leave r' e zz.1
          exact a _ H' dx xs x1 r1 q1 (q2.take zz.2)
        · exact a.elim
      | ok fl h' =>
        cases fl with
        | next δ => exact fun L' H' σ' e r' s' => ans_leave r e r' rep_none a
        | ret d => exact fun L' H' v e r' s' => ans_leave r e r' s' a
        | brk _ => exact a.elim
        | cont _ => exact a.elim
    · rw [z] at a
      generalize m (mStart N.length ds) h = out at a ⊢
      cases out with
      | stuck => exact a.elim
      | exc c fs δ h' => exact fun L' H' σ' dx xs e r' _ q1 q2 => a L' H' dx xs e r' q1 q2
      | ok fl h' =>
        cases fl with
        | next δ => exact fun L' H' σ' e r' s' => a L' H' _ e r' rep_none
        | ret d => exact fun L' H' v e r' s' => a L' H' v e r' s'
        | brk _ => exact a.elim
        | cont _ => exact a.elim
end
theorem callG {P : Program} {w : World} {K : PySem.W.Frag} {mg mb : Str → Option Value} {k : Nat} {fa a : Addr} {fd : FuncData} {x : Str} {sp : Sp} {s : Shared} {us : List Value} {ns : List Int} (kx : K.In s.heap) (hn : s.heap.Ns mainGlobals mg) (hb : s.heap.Ns builtinsNs mb)
    (bb : ∀ x : Str, x ≠ "__name__" → mb x = bootBuiltins x) (lim : s.heap.NoLimit) (g0 : s.gens = #[]) (at0 : s.heap.get? a = some { cls := .type "list", data := .seq us.toArray }) (hi : IntsAre us ns) (hl : ns.length ≤ sizeLine) (hr : Room k callerA)
    (F : ∀ base : Heap, K.In base → base.Ns mainGlobals mg → FnG P w K mg base k fa fd [x] sp) (bi : ∀ (s : Shared) (u : Value), BindsTo s fd ⟨[u], []⟩ [(x, u)])
    (hsp : ∀ H : Hp, L2.Only H → SqL K H a (ns.map V.int) → sp [.ref a] H (fun v _ => v = .bl true) fun _ _ _ => False) :
    codeAny (model P w) callerA (.call (.ref fa) ⟨[.ref a], []⟩) (fun r s' => r = .ok (.ret (.bool true)) ∧ OldK s.heap s'.heap ∧ s'.os = s.os ∧ AllBare s'.gens) s := by
  obtain ⟨H, ho, hs, ok, ha, hk⟩ : ∃ H : Hp, L2.Only H ∧ SqL K H a (ns.map V.int) ∧ HOk P w H s.heap ∧ (∀ b, H b ≠ none → b = a) ∧ (H a ≠ none → K.lookup a = none) := by
    cases q : K.lookup a with
    | some o =>
      have e := kx a o q
      rw [at0] at e
      cases e
      exact ⟨fun _ => none, fun _ => .inl rfl, .inr ⟨_, us.toArray, _, q, rfl, rfl, rfl, by rw [List.size_toArray, hi.length]; exact hl, by simpa using vals_ints hi⟩, (fun b u z => by cases (show (none : Option HO) = some u from z)), (fun _ z => absurd rfl z), fun z => absurd rfl z⟩
    | none =>
      let o : HO := .frz { cls := .type "list", data := .seq us.toArray } (.lst (ns.map V.int))
      have ne : ∀ {b}, b ≠ a → (if b = a then some o else none) = none := fun h => if_neg h
      refine ⟨fun b => if b = a then some o else none, fun b => ?_, .inl (.inr ⟨_, if_pos rfl⟩), fun b u z => ?_, fun b z => Classical.byContradiction fun q => z (ne q), fun _ => rfl⟩
      · by_cases q : b = a
        · exact .inr ⟨_, _, if_pos q⟩
        · exact .inl (ne q)
      · by_cases q : b = a
        · cases (if_pos q).symm.trans z
          subst q
          exact ⟨at0, by rw [List.length_map]; exact hl, us, _, vals_ints hi, at0⟩
        · cases (ne q).symm.trans z
  have none_of : ∀ {b : Addr} {ob : Obj}, s.heap.get? b = some ob → (b = a → H a ≠ none → False) → H b = none := fun {b ob} e h => Classical.byContradiction fun q => by
    have z := ha b q
    exact h z (z ▸ q)
  have ns_ : ∀ {b : Addr} {m : Str → Option Value}, s.heap.Ns b m → (hidT s.heap H).Ns b m := fun {b m} ⟨o, es, ep, e, d, r⟩ => ⟨o, es, ep, hidT_get e (none_of e fun z _ => by
    rw [z, at0] at e
    cases e
    cases (show Data.seq us.toArray _ = Data.dict es ep from d)), d, r⟩
  have kb : K.In (hidT s.heap H) := fun b o e => hidT_get (kx b o e) (none_of (kx b o e) fun z q => by rw [z, hk q] at e; cases e)
  have M : Mod K mg (hidT s.heap H) := ⟨kb, ns_ hn, ⟨mb, ns_ hb, bb⟩, let ⟨mc, h1, h2⟩ := lim; ⟨mc, ns_ h1, h2⟩⟩
  refine codeAny_mono ((F _ kb (ns_ hn)).run callerA [] s H ⟨[.ref a], []⟩ [.ref a] [.ref a] _ _ rfl hr ⟨rfl, M, fun b o e => of_hidT e, Nat.le_of_eq (hidT_size _ _), trivial, (fun b z => absurd (show b ∈ ([] : List Addr) from z) (by simp)), ok, .of_eq g0⟩ (bi s _) (.cons rfl .nil) (hsp H ho hs)) fun r s' h => ?_
  cases r with
  | error e => exact (no_exc (show L2N.CX P w [] H s (fun _ _ _ => False) e s' from h)).elim
  | ok fl =>
    cases fl with
    | next => exact False.elim h
    | brk => exact False.elim h
    | cont => exact False.elim h
    | ret u =>
      obtain ⟨v, H', os, bare, un, ok', rv, q⟩ := h
      replace q : v = .bl true := q
      subst q
      obtain rfl : u = Value.bool true := rv
      refine ⟨rfl, OldK.of_keep fun b o e => ?_, os, bare⟩
      cases q : H b with
      | none => exact un.keep b o e q (fun z => absurd (show b ∈ ([] : List Addr) from z) (by simp)) (by simp)
      | some u =>
        rcases ho b with z | ⟨ob, xs, z⟩
        · rw [q] at z; cases z
        · obtain ⟨e1, _⟩ := ok b _ z
          obtain ⟨e2, _⟩ := ok' b _ (un.frzs b ob _ z)
          rw [e] at e1; cases e1
          exact e2
theorem walk_ofG {l : PySem.W.OpenLaw} {n k : Nat} {q : Program} {loose : List Str} {XP : (Str → Option Value) → Heap → Prop} {YP : World → Heap → Prop} {d : DefRec} {K : Params → PySem.W.Frag} {sp : World → Sp} {x : Str} (hn : l.most = some n) (hn2 : n ≤ sizeLine)
    (hdf : d.params.defaults = []) (hr : Room k callerA) (hY : ∀ (w : World) (h : Heap), YP w h → (K w.params).In h)
    (F : ∀ (w : World) (mg : Str → Option Value) (fa : Addr) (h : Heap), (K w.params).In h → h.Ns mainGlobals mg → mg d.name = some (.ref fa) → ∃ fd : FuncData, (∀ (s : Shared) (u : Value), BindsTo s fd ⟨[u], []⟩ [(x, u)]) ∧
        ∀ base : Heap, (K w.params).In base → base.Ns mainGlobals mg → FnG l.prog w (K w.params) mg base k fa fd [x] (sp w))
    (hsp : ∀ (w : World) (H : Hp) (a : Addr) (ns : List Int), ns.length ≤ n → L2.Only H → SqL (K w.params) H a (ns.map V.int) → sp w [.ref a] H (fun v _ => v = .bl true) fun _ _ _ => False) : PySem.W.WalkO q loose XP YP l.row.toRowW d [] (fun f vs => PySem.call f vs) :=
  Att.attach_call hn hdf fun w s₀ s₁ mg mb fa o pm cd doc a vs ns G Y ho hd hcd hmg hobj hints hlen hg => by
    obtain ⟨fd, hb, hF⟩ := F w mg fa _ (hY w _ Y) G.T.g hmg
    exact callG (hY w _ Y) G.T.g G.T.b G.T.builtins G.T.nolimit hg hobj hints (Nat.le_trans hlen hn2) hr hF hb fun H z S => hsp w H a ns hlen z S
end MM
namespace K51
open PySem PySem.Spec PyProof.Rows L2 MM
def topS (i : Nat) : Stmt := PySem.Challenge.pw_escheat_k51_replayed_log.main.body.getD i (.Pass ⟨0, 0, 0, 0⟩)
abbrev s__law_start : Stmt := topS 19
theorem sc__law_start : FnScope ["script", "seed", "cell"] ["script"] (defScope s__law_start) := ⟨rfl, rfl, rfl, by decide +kernel, rfl, by decide +kernel, by decide +kernel⟩
abbrev s__law_new : Stmt := topS 21
theorem sc__law_new : FnScope [] [] (defScope s__law_new) := ⟨rfl, rfl, rfl, by decide +kernel, rfl, by decide +kernel, by decide +kernel⟩
abbrev s_Watch___enter__ : Stmt := inClass (topS 9) 1
theorem sc_Watch___enter__ : FnScope ["self"] ["self"] (defScope s_Watch___enter__) := ⟨rfl, rfl, rfl, by decide +kernel, rfl, by decide +kernel, by decide +kernel⟩
abbrev s_Watch___exit__ : Stmt := inClass (topS 9) 2
theorem sc_Watch___exit__ : FnScope ["self", "kind", "value", "trace"] ["self", "kind", "value", "trace"] (defScope s_Watch___exit__) := ⟨rfl, rfl, rfl, by decide +kernel, rfl, by decide +kernel, by decide +kernel⟩
abbrev s_Watch___init__ : Stmt := inClass (topS 9) 0
theorem sc_Watch___init__ : FnScope ["self", "store"] ["self", "store"] (defScope s_Watch___init__) := ⟨rfl, rfl, rfl, by decide +kernel, rfl, by decide +kernel, by decide +kernel⟩
abbrev s_Store___init__ : Stmt := inClass (topS 8) 0
theorem sc_Store___init__ : FnScope ["self"] ["self"] (defScope s_Store___init__) := ⟨rfl, rfl, rfl, by decide +kernel, rfl, by decide +kernel, by decide +kernel⟩
abbrev s_Region___init__ : Stmt := inClass (topS 7) 0
theorem sc_Region___init__ : FnScope ["self"] ["self"] (defScope s_Region___init__) := ⟨rfl, rfl, rfl, by decide +kernel, rfl, by decide +kernel, by decide +kernel⟩
abbrev s_Store_note : Stmt := inClass (topS 8) 19
theorem sc_Store_note : FnScope ["self", "what", "region", "address"] ["self", "what", "region", "address"] (defScope s_Store_note) := ⟨rfl, rfl, rfl, by decide +kernel, rfl, by decide +kernel, by decide +kernel⟩
abbrev s_Store_begin : Stmt := inClass (topS 8) 1
theorem sc_Store_begin : FnScope ["self", "number"] ["self"] (defScope s_Store_begin) := ⟨rfl, rfl, rfl, by decide +kernel, rfl, by decide +kernel, by decide +kernel⟩
abbrev s__begin : Stmt := topS 12
theorem sc__begin : FnScope ["store", "numbers"] ["store", "numbers"] (defScope s__begin) := ⟨rfl, rfl, rfl, by decide +kernel, rfl, by decide +kernel, by decide +kernel⟩
abbrev s_Store_expect_current : Stmt := inClass (topS 8) 14
theorem sc_Store_expect_current : FnScope ["self", "region"] ["self", "region"] (defScope s_Store_expect_current) := ⟨rfl, rfl, rfl, by decide +kernel, rfl, by decide +kernel, by decide +kernel⟩
abbrev s_Store_blank : Stmt := inClass (topS 8) 17
theorem sc_Store_blank : FnScope ["self", "address", "many"] ["self", "address", "many"] (defScope s_Store_blank) := ⟨rfl, rfl, rfl, by decide +kernel, rfl, by decide +kernel, by decide +kernel⟩
abbrev s_Store_first_row : Stmt := inClass (topS 8) 18
theorem sc_Store_first_row : FnScope ["self", "many", "row", "page", "owner"] ["self", "many"] (defScope s_Store_first_row) := ⟨rfl, rfl, rfl, by decide +kernel, rfl, by decide +kernel, by decide +kernel⟩
abbrev s_Store_take_pages : Stmt := inClass (topS 8) 16
theorem sc_Store_take_pages : FnScope ["self", "region", "many", "first"] ["self", "region", "many"] (defScope s_Store_take_pages) := ⟨rfl, rfl, rfl, by decide +kernel, rfl, by decide +kernel, by decide +kernel⟩
abbrev s_Store_take_room : Stmt := inClass (topS 8) 15
theorem sc_Store_take_room : FnScope ["self", "region", "words", "address"] ["self", "region", "words"] (defScope s_Store_take_room) := ⟨rfl, rfl, rfl, by decide +kernel, rfl, by decide +kernel, by decide +kernel⟩
abbrev s_Store_cell : Stmt := inClass (topS 8) 2
theorem sc_Store_cell : FnScope ["self", "region", "words", "address"] ["self", "region", "words"] (defScope s_Store_cell) := ⟨rfl, rfl, rfl, by decide +kernel, rfl, by decide +kernel, by decide +kernel⟩
abbrev s__cell : Stmt := topS 13
theorem sc__cell : FnScope ["store", "numbers", "region", "words"] ["store", "numbers"] (defScope s__cell) := ⟨rfl, rfl, rfl, by decide +kernel, rfl, by decide +kernel, by decide +kernel⟩
abbrev s_Store_end : Stmt := inClass (topS 8) 3
theorem sc_Store_end : FnScope ["self", "region", "ended", "page"] ["self", "region"] (defScope s_Store_end) := ⟨rfl, rfl, rfl, by decide +kernel, rfl, by decide +kernel, by decide +kernel⟩
abbrev s__end : Stmt := topS 14
theorem sc__end : FnScope ["store", "numbers"] ["store", "numbers"] (defScope s__end) := ⟨rfl, rfl, rfl, by decide +kernel, rfl, by decide +kernel, by decide +kernel⟩
abbrev s_Store___contains__ : Stmt := inClass (topS 8) 12
theorem sc_Store___contains__ : FnScope ["self", "address"] ["self", "address"] (defScope s_Store___contains__) := ⟨rfl, rfl, rfl, by decide +kernel, rfl, by decide +kernel, by decide +kernel⟩
abbrev s_Store_owner : Stmt := inClass (topS 8) 6
theorem sc_Store_owner : FnScope ["self", "address"] ["self", "address"] (defScope s_Store_owner) := ⟨rfl, rfl, rfl, by decide +kernel, rfl, by decide +kernel, by decide +kernel⟩
abbrev s_Store_read : Stmt := inClass (topS 8) 4
theorem sc_Store_read : FnScope ["self", "address"] ["self", "address"] (defScope s_Store_read) := ⟨rfl, rfl, rfl, by decide +kernel, rfl, by decide +kernel, by decide +kernel⟩
abbrev s__read : Stmt := topS 15
theorem sc__read : FnScope ["store", "numbers"] ["store", "numbers"] (defScope s__read) := ⟨rfl, rfl, rfl, by decide +kernel, rfl, by decide +kernel, by decide +kernel⟩
abbrev s_Store_write : Stmt := inClass (topS 8) 5
theorem sc_Store_write : FnScope ["self", "address", "word", "owner"] ["self", "address", "word"] (defScope s_Store_write) := ⟨rfl, rfl, rfl, by decide +kernel, rfl, by decide +kernel, by decide +kernel⟩
abbrev s__write : Stmt := topS 16
theorem sc__write : FnScope ["store", "numbers", "address", "word"] ["store", "numbers"] (defScope s__write) := ⟨rfl, rfl, rfl, by decide +kernel, rfl, by decide +kernel, by decide +kernel⟩
abbrev s__perform : Stmt := topS 11
theorem sc__perform : FnScope ["store", "deed", "what", "numbers", "action"] ["store", "deed"] (defScope s__perform) := ⟨rfl, rfl, rfl, by decide +kernel, rfl, by decide +kernel, by decide +kernel⟩
abbrev s_replay : Stmt := topS 10
theorem sc_replay : FnScope ["deeds", "watch", "deed"] ["deeds"] (defScope s_replay) := ⟨rfl, rfl, rfl, by decide +kernel, rfl, by decide +kernel, by decide +kernel⟩
abbrev s__law_draw : Stmt := topS 20
theorem sc__law_draw : FnScope ["state", "many", "value"] ["state", "many"] (defScope s__law_draw) := ⟨rfl, rfl, rfl, by decide +kernel, rfl, by decide +kernel, by decide +kernel⟩
abbrev s__law_end : Stmt := topS 26
theorem sc__law_end : FnScope ["model", "region", "page", "k"] ["model", "region"] (defScope s__law_end) := ⟨rfl, rfl, rfl, by decide +kernel, rfl, by decide +kernel, by decide +kernel⟩
abbrev s__law_pages : Stmt := topS 23
theorem sc__law_pages : FnScope ["model", "many", "owners", "first", "k", "j"] ["model", "many"] (defScope s__law_pages) := ⟨rfl, rfl, rfl, by decide +kernel, rfl, by decide +kernel, by decide +kernel⟩
abbrev s__law_pages_for : Stmt := topS 24
theorem sc__law_pages_for : FnScope ["model", "region", "many", "first", "k"] ["model", "region", "many"] (defScope s__law_pages_for) := ⟨rfl, rfl, rfl, by decide +kernel, rfl, by decide +kernel, by decide +kernel⟩
abbrev s__law_cell : Stmt := topS 25
theorem sc__law_cell : FnScope ["model", "region", "words", "spot", "row", "address"] ["model", "region", "words"] (defScope s__law_cell) := ⟨rfl, rfl, rfl, by decide +kernel, rfl, by decide +kernel, by decide +kernel⟩
abbrev s__law_begin : Stmt := topS 22
theorem sc__law_begin : FnScope ["model"] ["model"] (defScope s__law_begin) := ⟨rfl, rfl, rfl, by decide +kernel, rfl, by decide +kernel, by decide +kernel⟩
abbrev s__law_owner : Stmt := topS 27
theorem sc__law_owner : FnScope ["model", "address"] ["model", "address"] (defScope s__law_owner) := ⟨rfl, rfl, rfl, by decide +kernel, rfl, by decide +kernel, by decide +kernel⟩
abbrev s__law_entry : Stmt := topS 29
theorem sc__law_entry : FnScope ["model", "deed", "region"] ["model", "deed"] (defScope s__law_entry) := ⟨rfl, rfl, rfl, by decide +kernel, rfl, by decide +kernel, by decide +kernel⟩
abbrev s__law_deed : Stmt := topS 28
theorem sc__law_deed : FnScope ["state", "many", "deed", "region", "words", "address"] ["state", "many"] (defScope s__law_deed) := ⟨rfl, rfl, rfl, by decide +kernel, rfl, by decide +kernel, by decide +kernel⟩
abbrev s_law : Stmt := topS 30
theorem sc_law : FnScope ["script", "state", "deeds", "many", "k", "model", "due", "deed", "entry", "given", "actual"] ["script"] (defScope s_law) := ⟨rfl, rfl, rfl, by decide +kernel, rfl, by decide +kernel, by decide +kernel⟩
def c_NOBODY : D := (.int (-1))
def c_PAGE_WORDS : D := (.int 8)
def kv_DEEDS : List (Str × D) := [("begin", (.kon "_begin")), ("cell", (.kon "_cell")), ("end", (.kon "_end")), ("read", (.kon "_read")), ("write", (.kon "_write"))]
abbrev sx_StoreError : Stmt := inClass (topS 3) 0
set_option genInjectivity false in
set_option genSizeOf false in
structure Top (P : Program) (w : World) (K : PySem.W.Frag) (mg : Str → Option Value) where
  a__law_start : Addr
  f__law_start : FuncData
  d__law_start : DefAt K mg "_law_start" s__law_start a__law_start f__law_start ["script"]
  a__law_new : Addr
  f__law_new : FuncData
  d__law_new : DefAt K mg "_law_new" s__law_new a__law_new f__law_new []
  a_Watch___enter__ : Addr
  f_Watch___enter__ : FuncData
  a_Watch___exit__ : Addr
  f_Watch___exit__ : FuncData
  a_Watch___init__ : Addr
  f_Watch___init__ : FuncData
  a_Store___init__ : Addr
  f_Store___init__ : FuncData
  a_Region___init__ : Addr
  f_Region___init__ : FuncData
  a_Store_note : Addr
  f_Store_note : FuncData
  a_Store_begin : Addr
  f_Store_begin : FuncData
  a__begin : Addr
  f__begin : FuncData
  d__begin : DefAt K mg "_begin" s__begin a__begin f__begin ["store", "numbers"]
  a_Store_expect_current : Addr
  f_Store_expect_current : FuncData
  a_Store_blank : Addr
  f_Store_blank : FuncData
  a_Store_first_row : Addr
  f_Store_first_row : FuncData
  a_Store_take_pages : Addr
  f_Store_take_pages : FuncData
  a_Store_take_room : Addr
  f_Store_take_room : FuncData
  a_Store_cell : Addr
  f_Store_cell : FuncData
  a__cell : Addr
  f__cell : FuncData
  d__cell : DefAt K mg "_cell" s__cell a__cell f__cell ["store", "numbers"]
  a_Store_end : Addr
  f_Store_end : FuncData
  a__end : Addr
  f__end : FuncData
  d__end : DefAt K mg "_end" s__end a__end f__end ["store", "numbers"]
  a_Store___contains__ : Addr
  f_Store___contains__ : FuncData
  a_Store_owner : Addr
  f_Store_owner : FuncData
  a_Store_read : Addr
  f_Store_read : FuncData
  a__read : Addr
  f__read : FuncData
  d__read : DefAt K mg "_read" s__read a__read f__read ["store", "numbers"]
  a_Store_write : Addr
  f_Store_write : FuncData
  a__write : Addr
  f__write : FuncData
  d__write : DefAt K mg "_write" s__write a__write f__write ["store", "numbers"]
  a__perform : Addr
  f__perform : FuncData
  d__perform : DefAt K mg "_perform" s__perform a__perform f__perform ["store", "deed"]
  a_replay : Addr
  f_replay : FuncData
  d_replay : DefAt K mg "replay" s_replay a_replay f_replay ["deeds"]
  a__law_draw : Addr
  f__law_draw : FuncData
  d__law_draw : DefAt K mg "_law_draw" s__law_draw a__law_draw f__law_draw ["state", "many"]
  a__law_end : Addr
  f__law_end : FuncData
  d__law_end : DefAt K mg "_law_end" s__law_end a__law_end f__law_end ["model", "region"]
  a__law_pages : Addr
  f__law_pages : FuncData
  d__law_pages : DefAt K mg "_law_pages" s__law_pages a__law_pages f__law_pages ["model", "many"]
  a__law_pages_for : Addr
  f__law_pages_for : FuncData
  d__law_pages_for : DefAt K mg "_law_pages_for" s__law_pages_for a__law_pages_for f__law_pages_for ["model", "region", "many"]
  a__law_cell : Addr
  f__law_cell : FuncData
  d__law_cell : DefAt K mg "_law_cell" s__law_cell a__law_cell f__law_cell ["model", "region", "words"]
  a__law_begin : Addr
  f__law_begin : FuncData
  d__law_begin : DefAt K mg "_law_begin" s__law_begin a__law_begin f__law_begin ["model"]
  a__law_owner : Addr
  f__law_owner : FuncData
  d__law_owner : DefAt K mg "_law_owner" s__law_owner a__law_owner f__law_owner ["model", "address"]
  a__law_entry : Addr
  f__law_entry : FuncData
  d__law_entry : DefAt K mg "_law_entry" s__law_entry a__law_entry f__law_entry ["model", "deed"]
  a__law_deed : Addr
  f__law_deed : FuncData
  d__law_deed : DefAt K mg "_law_deed" s__law_deed a__law_deed f__law_deed ["state", "many"]
  a_law : Addr
  f_law : FuncData
  d_law : DefAt K mg "law" s_law a_law f_law ["script"]
  a_cls_Watch : Addr
  a_cls_Store : Addr
  a_cls_Region : Addr
  d_Watch___enter__ : MthAt K a_cls_Watch "__enter__" "Watch.__enter__" s_Watch___enter__ a_Watch___enter__ f_Watch___enter__ ["self"]
  d_Watch___exit__ : MthAt K a_cls_Watch "__exit__" "Watch.__exit__" s_Watch___exit__ a_Watch___exit__ f_Watch___exit__ ["self", "kind", "value", "trace"]
  d_Watch___init__ : MthAt K a_cls_Watch "__init__" "Watch.__init__" s_Watch___init__ a_Watch___init__ f_Watch___init__ ["self", "store"]
  d_Store___init__ : MthAt K a_cls_Store "__init__" "Store.__init__" s_Store___init__ a_Store___init__ f_Store___init__ ["self"]
  d_Region___init__ : MthAt K a_cls_Region "__init__" "Region.__init__" s_Region___init__ a_Region___init__ f_Region___init__ ["self"]
  d_Store_note : MthAt K a_cls_Store "note" "Store.note" s_Store_note a_Store_note f_Store_note ["self", "what", "region", "address"]
  d_Store_begin : MthAt K a_cls_Store "begin" "Store.begin" s_Store_begin a_Store_begin f_Store_begin ["self"]
  d_Store_expect_current : MthAt K a_cls_Store "expect_current" "Store.expect_current" s_Store_expect_current a_Store_expect_current f_Store_expect_current ["self", "region"]
  d_Store_blank : MthAt K a_cls_Store "blank" "Store.blank" s_Store_blank a_Store_blank f_Store_blank ["self", "address", "many"]
  d_Store_first_row : MthAt K a_cls_Store "first_row" "Store.first_row" s_Store_first_row a_Store_first_row f_Store_first_row ["self", "many"]
  d_Store_take_pages : MthAt K a_cls_Store "take_pages" "Store.take_pages" s_Store_take_pages a_Store_take_pages f_Store_take_pages ["self", "region", "many"]
  d_Store_take_room : MthAt K a_cls_Store "take_room" "Store.take_room" s_Store_take_room a_Store_take_room f_Store_take_room ["self", "region", "words"]
  d_Store_cell : MthAt K a_cls_Store "cell" "Store.cell" s_Store_cell a_Store_cell f_Store_cell ["self", "region", "words"]
  d_Store_end : MthAt K a_cls_Store "end" "Store.end" s_Store_end a_Store_end f_Store_end ["self", "region"]
  d_Store___contains__ : MthAt K a_cls_Store "__contains__" "Store.__contains__" s_Store___contains__ a_Store___contains__ f_Store___contains__ ["self", "address"]
  d_Store_owner : MthAt K a_cls_Store "owner" "Store.owner" s_Store_owner a_Store_owner f_Store_owner ["self", "address"]
  d_Store_read : MthAt K a_cls_Store "read" "Store.read" s_Store_read a_Store_read f_Store_read ["self", "address"]
  d_Store_write : MthAt K a_cls_Store "write" "Store.write" s_Store_write a_Store_write f_Store_write ["self", "address", "word"]
  cls_Watch : ClsT K "Watch" a_cls_Watch ["is_on", "log", "store"]
  mg_Watch : mg "Watch" = some (.ref a_cls_Watch)
  mk_Watch : Mk K a_cls_Watch a_Watch___init__
  cls_Store : ClsT K "Store" a_cls_Store ["begun", "free", "owners", "regions", "total", "watch", "words"]
  mg_Store : mg "Store" = some (.ref a_cls_Store)
  mk_Store : Mk K a_cls_Store a_Store___init__
  cls_Region : ClsT K "Region" a_cls_Region ["behind", "pages_taken", "words"]
  mg_Region : mg "Region" = some (.ref a_cls_Region)
  mk_Region : Mk K a_cls_Region a_Region___init__
  c_y_StoreError : Addr
  y_StoreError : XTry K mg "StoreError" ["reason"] c_y_StoreError
  x_StoreError : ME.XAt P w K mg "StoreError" ["reason"]
  z_int : mg "int" = none
  z_list : mg "list" = none
  z_len : mg "len" = none
  z_enumerate : mg "enumerate" = none
  z_range : mg "range" = none
  z_abs : mg "abs" = none
  z_isinstance : mg "isinstance" = none
  z_repr : mg "repr" = none
  n__begin : PySem.W.nsIn K mainGlobals "_begin" = some (some (.ref a__begin))
  n__cell : PySem.W.nsIn K mainGlobals "_cell" = some (some (.ref a__cell))
  n__end : PySem.W.nsIn K mainGlobals "_end" = some (some (.ref a__end))
  n__read : PySem.W.nsIn K mainGlobals "_read" = some (some (.ref a__read))
  n__write : PySem.W.nsIn K mainGlobals "_write" = some (some (.ref a__write))
  c_NOBODY : CAt K mg "NOBODY" c_NOBODY
  c_PAGE_WORDS : CAt K mg "PAGE_WORDS" c_PAGE_WORDS
  k_DEEDS : KAt K w mg "DEEDS" kv_DEEDS
noncomputable def b__law_start_1 : MSt :=
  mSet 1 (mOp opAdd (mOp opMod (mCall fInt (mCons (mOp opAdd (mOp opMul (mVar 1) (mC (.int 48271))) (mVar 2)) (mNil))) (mC (.int 2147483629))) (mC (.int 1)))
noncomputable def b__law_start : MSt :=
  mSeq (mSet 1 (mC (.int 7))) (mSeq (mFor (mSrc (mVar 0)) (mgName 2) (b__law_start_1)) (mRet (mLstN (mCons (mCall fList (mCons (mVar 0) (mNil))) (mCons (mC (.int 0)) (mCons (mC (.int 0)) (mCons (mVar 1) (mNil))))))))
noncomputable def m__law_start : List D → MH → R D := mFnN 1 3 b__law_start
noncomputable def b__law_new : MSt :=
  mRet (mLstN (mCons (mLstN (mNil)) (mCons (mLstN (mNil)) (mCons (mLstN (mNil)) (mCons (mLstN (mNil)) (mCons (mLstN (mNil)) (mNil)))))))
noncomputable def m__law_new : List D → MH → R D := mFnN 0 0 b__law_new
noncomputable def b_Watch___enter__ : MSt :=
  mSeq (mFldS ["Watch"] "log" (mLstN (mNil)) (mVar 0)) (mSeq (mFldS ["Watch"] "is_on" (mC (.bl true)) (mVar 0)) (mSeq (mFldS ["Store"] "watch" (mVar 0) (mFld ["Watch"] "store" (mVar 0))) (mRet (mVar 0))))
noncomputable def m_Watch___enter__ : List D → MH → R D := mFnN 1 1 b_Watch___enter__
noncomputable def b_Watch___exit__ : MSt :=
  mFldS ["Watch"] "is_on" (mC (.bl false)) (mVar 0)
noncomputable def m_Watch___exit__ : List D → MH → R D := mFn 4 4 b_Watch___exit__
noncomputable def b_Watch___init__ : MSt :=
  mSeq (mFldS ["Watch"] "store" (mVar 1) (mVar 0)) (mSeq (mFldS ["Watch"] "log" (mLstN (mNil)) (mVar 0)) (mFldS ["Watch"] "is_on" (mC (.bl false)) (mVar 0)))
noncomputable def m_Watch___init__ : List D → MH → R D := mFnN 2 2 b_Watch___init__
noncomputable def b_Store___init__ : MSt :=
  mSeq (mFldS ["Region", "Store"] "words" (mLstN (mNil)) (mVar 0)) (mSeq (mFldS ["Store"] "owners" (mLstN (mNil)) (mVar 0)) (mSeq (mFldS ["Store"] "regions" (mDicN) (mVar 0)) (mSeq (mFldS ["Store"] "begun" (mC (.int 0)) (mVar 0)) (mSeq (mFldS ["Store"] "total" (mC (.int 0)) (mVar 0)) (mSeq (mFldS ["Store"] "free" (mC (.int 0)) (mVar 0)) (mFldS ["Store"] "watch" (mC .non) (mVar 0)))))))
noncomputable def m_Store___init__ : List D → MH → R D := mFnN 1 1 b_Store___init__
noncomputable def b_Region___init__ : MSt :=
  mSeq (mFldS ["Region", "Store"] "words" (mC (.int 0)) (mVar 0)) (mSeq (mFldS ["Region"] "pages_taken" (mLstN (mNil)) (mVar 0)) (mFldS ["Region"] "behind" (mC (.int 0)) (mVar 0)))
noncomputable def m_Region___init__ : List D → MH → R D := mFnN 1 1 b_Region___init__
noncomputable def b_Store_note : MSt :=
  mIfS (mAnd (mB (mOp opNotN (mFld ["Store"] "watch" (mVar 0)) (mC .non))) (mTru (mFld ["Watch"] "is_on" (mFld ["Store"] "watch" (mVar 0))))) (mDrop (mMtd "list" fAppend (mFld ["Watch"] "log" (mFld ["Store"] "watch" (mVar 0))) (mCons (mTup (mCons (mVar 1) (mCons (mVar 2) (mCons (mVar 3) (mNil))))) (mNil)))) (mNext)
noncomputable def m_Store_note : List D → MH → R D := mFn 4 4 b_Store_note
noncomputable def b_Store_begin : MSt :=
  mSeq (mSet 1 (mFld ["Store"] "begun" (mVar 0))) (mSeq (mFldAug ["Store"] "begun" opAddI (mVar 0) (mC (.int 1))) (mSeq (mSetIx2 (mMake "Region" m_Region___init__ mNil) (mFld ["Store"] "regions" (mVar 0)) (mVar 1)) (mSeq (mDrop (mMeth "Store" "note" m_Store_note (mVar 0) (mCons (mC (.str "begin")) (mCons (mVar 1) (mCons (mC (.int 0)) (mNil)))))) (mRet (mVar 1)))))
noncomputable def m_Store_begin : List D → MH → R D := mFnN 1 2 b_Store_begin
noncomputable def b__begin : MSt :=
  mDrop (mMeth "Store" "begin" m_Store_begin (mVar 0) mNil)
noncomputable def m__begin : List D → MH → R D := mFnN 2 2 b__begin
noncomputable def b_Store_expect_current : MSt :=
  mIfS (mB (mOp opNin2 (mVar 1) (mFld ["Store"] "regions" (mVar 0)))) (mRaise "StoreError" ["reason"] (mCons (mC (.str "region")) (mNil))) (mNext)
noncomputable def m_Store_expect_current : List D → MH → R D := mFn 2 2 b_Store_expect_current
noncomputable def b_Store_blank : MSt :=
  mCut (mOp opRep (mLstN (mCons (mC (.int 0)) (mNil))) (mVar 2)) (mFld ["Region", "Store"] "words" (mVar 0)) (mPart (mVar 1)) (mPart (mOp opAddL (mVar 1) (mVar 2)))
noncomputable def m_Store_blank : List D → MH → R D := mFn 3 3 b_Store_blank
noncomputable def b_Store_first_row_1 : MSt :=
  mSeq (mSet 2 (mIf (mB (mOp opEq (mVar 4) (mC c_NOBODY))) (mOp opAddL (mVar 2) (mC (.int 1))) (mC (.int 0)))) (mIfS (mB (mOp opEq (mVar 2) (mVar 1))) (mRet (mOp opSub (mOp opAddL (mVar 3) (mC (.int 1))) (mVar 1))) (mNext))
noncomputable def b_Store_first_row : MSt :=
  mSeq (mIfS (mB (mOp opLt (mFld ["Store"] "free" (mVar 0)) (mVar 1))) (mRet (mCall fLen (mCons (mFld ["Store"] "owners" (mVar 0)) (mNil)))) (mNext)) (mSeq (mSet 2 (mC (.int 0))) (mSeq (mFor (mCallI fEnum3 (mCons (mFld ["Store"] "owners" (mVar 0)) (mNil))) (mgSeq 2 (mgCons (mgName 3) (mgCons (mgName 4) (mgNil)))) (b_Store_first_row_1)) (mRet (mCall fLen (mCons (mFld ["Store"] "owners" (mVar 0)) (mNil))))))
noncomputable def m_Store_first_row : List D → MH → R D := mFn 2 5 b_Store_first_row
noncomputable def b_Store_take_pages : MSt :=
  mSeq (mSet 3 (mMeth "Store" "first_row" m_Store_first_row (mVar 0) (mCons (mVar 2) (mNil)))) (mSeq (mIfS (mB (mOp opEq (mVar 3) (mCall fLen (mCons (mFld ["Store"] "owners" (mVar 0)) (mNil))))) (mDrop (mMtd "list" fExtend (mFld ["Region", "Store"] "words" (mVar 0)) (mCons (mOp opRep (mLstN (mCons (mC (.int 0)) (mNil))) (mOp opMul (mVar 2) (mC c_PAGE_WORDS))) (mNil)))) (mFldAug ["Store"] "free" opSub (mVar 0) (mVar 2))) (mSeq (mCut (mOp opRep (mLstN (mCons (mVar 1) (mNil))) (mVar 2)) (mFld ["Store"] "owners" (mVar 0)) (mPart (mVar 3)) (mPart (mOp opAddL (mVar 3) (mVar 2)))) (mSeq (mDrop (mMtd "list" fExtend (mFld ["Region"] "pages_taken" (mOp opIx (mFld ["Store"] "regions" (mVar 0)) (mVar 1))) (mCons (mLRg (mVar 3) (mOp opAddL (mVar 3) (mVar 2))) (mNil)))) (mRet (mOp opMul (mVar 3) (mC c_PAGE_WORDS))))))
noncomputable def m_Store_take_pages : List D → MH → R D := mFn 3 4 b_Store_take_pages
noncomputable def b_Store_take_room : MSt :=
  mSeq (mSet 3 (mFld ["Region"] "behind" (mOp opIx (mFld ["Store"] "regions" (mVar 0)) (mVar 1)))) (mSeq (mIfS (mB (mOp opLt (mOp opMod (mUn opNeg (mVar 3)) (mC c_PAGE_WORDS)) (mVar 2))) (mSet 3 (mMeth "Store" "take_pages" m_Store_take_pages (mVar 0) (mCons (mVar 1) (mCons (mC (.int 1)) (mNil))))) (mNext)) (mSeq (mFldS ["Region"] "behind" (mOp opAddL (mVar 3) (mVar 2)) (mOp opIx (mFld ["Store"] "regions" (mVar 0)) (mVar 1))) (mRet (mVar 3))))
noncomputable def m_Store_take_room : List D → MH → R D := mFn 3 4 b_Store_take_room
noncomputable def b_Store_cell : MSt :=
  mSeq (mDrop (mMeth "Store" "expect_current" m_Store_expect_current (mVar 0) (mCons (mVar 1) (mNil)))) (mSeq (mIfS (mB (mOp opLt (mVar 2) (mC (.int 1)))) (mRaise "StoreError" ["reason"] (mCons (mC (.str "words")) (mNil))) (mNext)) (mSeq (mIfS (mB (mOp opGt (mVar 2) (mC c_PAGE_WORDS))) (mSet 3 (mMeth "Store" "take_pages" m_Store_take_pages (mVar 0) (mCons (mVar 1) (mCons (mOp opDiv (mOp opSub (mOp opAddL (mVar 2) (mC c_PAGE_WORDS)) (mC (.int 1))) (mC c_PAGE_WORDS)) (mNil))))) (mSet 3 (mMeth "Store" "take_room" m_Store_take_room (mVar 0) (mCons (mVar 1) (mCons (mVar 2) (mNil)))))) (mSeq (mDrop (mMeth "Store" "blank" m_Store_blank (mVar 0) (mCons (mVar 3) (mCons (mVar 2) (mNil))))) (mSeq (mFldAug ["Region", "Store"] "words" opAddI (mOp opIx (mFld ["Store"] "regions" (mVar 0)) (mVar 1)) (mVar 2)) (mSeq (mFldAug ["Store"] "total" opAddI (mVar 0) (mVar 2)) (mSeq (mDrop (mMeth "Store" "note" m_Store_note (mVar 0) (mCons (mC (.str "cell")) (mCons (mVar 1) (mCons (mVar 3) (mNil)))))) (mRet (mVar 3))))))))
noncomputable def m_Store_cell : List D → MH → R D := mFn 3 4 b_Store_cell
noncomputable def b__cell : MSt :=
  mSeq (mAsg (mVar 1) (mgSeq 2 (mgCons (mgName 2) (mgCons (mgName 3) (mgNil))))) (mDrop (mMeth "Store" "cell" m_Store_cell (mVar 0) (mCons (mVar 2) (mCons (mVar 3) (mNil)))))
noncomputable def m__cell : List D → MH → R D := mFn 2 4 b__cell
noncomputable def b_Store_end_1 : MSt :=
  mSeq (mSetIx2 (mC c_NOBODY) (mFld ["Store"] "owners" (mVar 0)) (mVar 3)) (mDrop (mMeth "Store" "blank" m_Store_blank (mVar 0) (mCons (mOp opMul (mVar 3) (mC c_PAGE_WORDS)) (mCons (mC c_PAGE_WORDS) (mNil)))))
noncomputable def b_Store_end : MSt :=
  mSeq (mDrop (mMeth "Store" "expect_current" m_Store_expect_current (mVar 0) (mCons (mVar 1) (mNil)))) (mSeq (mSet 2 (mDPop (mFld ["Store"] "regions" (mVar 0)) (mVar 1))) (mSeq (mFor (mSrc (mCall fList (mCons (mFld ["Region"] "pages_taken" (mVar 2)) (mNil)))) (mgName 3) (b_Store_end_1)) (mSeq (mFldAug ["Store"] "free" opAddI (mVar 0) (mCall fLen (mCons (mFld ["Region"] "pages_taken" (mVar 2)) (mNil)))) (mSeq (mFldAug ["Store"] "total" opSub (mVar 0) (mFld ["Region", "Store"] "words" (mVar 2))) (mDrop (mMeth "Store" "note" m_Store_note (mVar 0) (mCons (mC (.str "end")) (mCons (mVar 1) (mCons (mC (.int 0)) (mNil))))))))))
noncomputable def m_Store_end : List D → MH → R D := mFn 2 4 b_Store_end
noncomputable def b__end : MSt :=
  mDrop (mMeth "Store" "end" m_Store_end (mVar 0) (mCons (mOp opIx (mVar 1) (mC (.int 0))) (mNil)))
noncomputable def m__end : List D → MH → R D := mFn 2 2 b__end
noncomputable def b_Store___contains__ : MSt :=
  mRet (mChain opLe opLt (mC (.int 0)) (mVar 1) (mCall fLen (mCons (mFld ["Region", "Store"] "words" (mVar 0)) (mNil))))
noncomputable def m_Store___contains__ : List D → MH → R D := mFn 2 2 b_Store___contains__
noncomputable def b_Store_owner : MSt :=
  mRet (mIf (mB (mOp (opInOwn false "Store" m_Store___contains__) (mVar 1) (mVar 0))) (mOp opIx (mFld ["Store"] "owners" (mVar 0)) (mOp opDiv (mVar 1) (mC c_PAGE_WORDS))) (mC c_NOBODY))
noncomputable def m_Store_owner : List D → MH → R D := mFn 2 2 b_Store_owner
noncomputable def b_Store_read : MSt :=
  mSeq (mDrop (mMeth "Store" "note" m_Store_note (mVar 0) (mCons (mC (.str "read")) (mCons (mMeth "Store" "owner" m_Store_owner (mVar 0) (mCons (mVar 1) (mNil))) (mCons (mVar 1) (mNil)))))) (mRet (mIf (mB (mOp (opInOwn false "Store" m_Store___contains__) (mVar 1) (mVar 0))) (mOp opIx (mFld ["Region", "Store"] "words" (mVar 0)) (mVar 1)) (mC (.int 0))))
noncomputable def m_Store_read : List D → MH → R D := mFn 2 2 b_Store_read
noncomputable def b__read : MSt :=
  mDrop (mMeth "Store" "read" m_Store_read (mVar 0) (mCons (mOp opIx (mVar 1) (mC (.int 0))) (mNil)))
noncomputable def m__read : List D → MH → R D := mFn 2 2 b__read
noncomputable def b_Store_write : MSt :=
  mSeq (mSet 3 (mMeth "Store" "owner" m_Store_owner (mVar 0) (mCons (mVar 1) (mNil)))) (mSeq (mIfS (mB (mOp opNe (mVar 3) (mC c_NOBODY))) (mSetIx2 (mVar 2) (mFld ["Region", "Store"] "words" (mVar 0)) (mVar 1)) (mNext)) (mDrop (mMeth "Store" "note" m_Store_note (mVar 0) (mCons (mC (.str "write")) (mCons (mVar 3) (mCons (mVar 1) (mNil)))))))
noncomputable def m_Store_write : List D → MH → R D := mFn 3 4 b_Store_write
noncomputable def b__write : MSt :=
  mSeq (mAsg (mVar 1) (mgSeq 2 (mgCons (mgName 2) (mgCons (mgName 3) (mgNil))))) (mDrop (mMeth "Store" "write" m_Store_write (mVar 0) (mCons (mVar 2) (mCons (mVar 3) (mNil)))))
noncomputable def m__write : List D → MH → R D := mFn 2 4 b__write
noncomputable def tab__perform_action : List (Str × (List D → MH → R D)) :=
  [("_begin", m__begin), ("_cell", m__cell), ("_end", m__end), ("_read", m__read), ("_write", m__write)]
noncomputable def b__perform : MSt :=
  mSeq (mAsgStar 2 3 (mVar 1)) (mSeq (mSet 4 (mKIx kv_DEEDS (mVar 2))) (mTryP (mDrop (mCallV tab__perform_action (mVar 4) (mCons (mVar 0) (mCons (mVar 3) (mNil))))) (hitOne "StoreError") (mNext)))
noncomputable def m__perform : List D → MH → R D := mFnN 2 5 b__perform
noncomputable def b_replay_1 : MSt :=
  mDrop (mCall m__perform (mCons (mFld ["Watch"] "store" (mVar 1)) (mCons (mVar 2) (mNil))))
noncomputable def b_replay : MSt :=
  mSeq (mWith "Watch" m_Watch___enter__ m_Watch___exit__ (mMake "Watch" m_Watch___init__ (mCons (mMake "Store" m_Store___init__ mNil) (mNil))) (mgName 1) (mFor (mSrc (mVar 0)) (mgName 2) (b_replay_1))) (mRet (mCall fListN (mCons (mFld ["Watch"] "log" (mVar 1)) (mNil))))
noncomputable def m_replay : List D → MH → R D := mFnN 1 3 b_replay
noncomputable def b__law_draw : MSt :=
  mSeq (mIfS (mAnd (mB (mOp opEq (mOp opIx (mVar 0) (mC (.int 1))) (mC (.int 0)))) (mB (mOp opGe (mOp opIx (mVar 0) (mC (.int 2))) (mCall fLen (mCons (mOp opIx (mVar 0) (mC (.int 0))) (mNil)))))) (mSeq (mSetIx2 (mOp opMod (mCall fInt (mCons (mOp opAdd (mOp opMul (mOp opIx (mVar 0) (mC (.int 3))) (mC (.int 48271))) (mC (.int 69621))) (mNil))) (mC (.int 2147483629))) (mVar 0) (mC (.int 3))) (mRet (mOp opMod (mCall fInt (mCons (mOp opDiv (mOp opIx (mVar 0) (mC (.int 3))) (mC (.int 13))) (mNil))) (mVar 1)))) (mNext)) (mSeq (mIfS (mB (mOp opEq (mOp opIx (mVar 0) (mC (.int 1))) (mC (.int 0)))) (mSeq (mSetIx2 (mCall fAbs (mCons (mOp opIx (mOp opIx (mVar 0) (mC (.int 0))) (mOp opIx (mVar 0) (mC (.int 2)))) (mNil))) (mVar 0) (mC (.int 1))) (mSetIx2 (mOp opAdd (mOp opIx (mVar 0) (mC (.int 2))) (mC (.int 1))) (mVar 0) (mC (.int 2)))) (mNext)) (mSeq (mSet 2 (mOp opMod (mCall fInt (mCons (mOp opIx (mVar 0) (mC (.int 1))) (mNil))) (mVar 1))) (mSeq (mSetIx2 (mOp opDiv (mOp opIx (mVar 0) (mC (.int 1))) (mVar 1)) (mVar 0) (mC (.int 1))) (mRet (mVar 2)))))
noncomputable def m__law_draw : List D → MH → R D := mFn 2 3 b__law_draw
noncomputable def b__law_end_1 : MSt :=
  mSetIx2 (mC (.int 0)) (mOp opIx (mVar 0) (mC (.int 1))) (mOp opAddL (mOp opMul (mC (.int 8)) (mVar 2)) (mVar 3))
noncomputable def b__law_end_2 : MSt :=
  mIfS (mB (mOp opEq (mOp opIx (mOp opIx (mVar 0) (mC (.int 0))) (mVar 2)) (mVar 1))) (mSeq (mSetIx2 (mUn opNeg (mC (.int 1))) (mOp opIx (mVar 0) (mC (.int 0))) (mVar 2)) (mFor (mCallI fRange1 (mCons (mC (.int 8)) (mNil))) (mgName 3) (b__law_end_1))) (mNext)
noncomputable def b__law_end : MSt :=
  mSeq (mSetIx2 (mC (.bl false)) (mOp opIx (mVar 0) (mC (.int 2))) (mVar 1)) (mFor (mCallI fRange1 (mCons (mCall fLen (mCons (mOp opIx (mVar 0) (mC (.int 0))) (mNil))) (mNil))) (mgName 2) (b__law_end_2))
noncomputable def m__law_end : List D → MH → R D := mFn 2 4 b__law_end
noncomputable def b__law_pages_1 : MSt :=
  mIfS (mB (mOp opEq (mSl opSl (mVar 2) (mPart (mVar 3)) (mPart (mOp opAddL (mVar 3) (mVar 1)))) (mLc (mCallI fRange1 (mCons (mVar 1) (mNil))) (mgName 4) (mYes) (mUn opNeg (mC (.int 1))) [4]))) (mRet (mVar 3)) (mNext)
noncomputable def b__law_pages_2 : MSt :=
  mSeq (mDrop (mMtd "list" fAppend (mVar 2) (mCons (mUn opNeg (mC (.int 1))) (mNil)))) (mDrop (mMtd "list" fExtend (mOp opIx (mVar 0) (mC (.int 1))) (mCons (mLc (mCallI fRange1 (mCons (mC (.int 8)) (mNil))) (mgName 5) (mYes) (mC (.int 0)) [5]) (mNil))))
noncomputable def b__law_pages : MSt :=
  mSeq (mSet 2 (mOp opIx (mVar 0) (mC (.int 0)))) (mSeq (mFor (mCallI fRange1 (mCons (mCall fLen (mCons (mVar 2) (mNil))) (mNil))) (mgName 3) (b__law_pages_1)) (mSeq (mSet 3 (mCall fLen (mCons (mVar 2) (mNil)))) (mSeq (mFor (mCallI fRange1 (mCons (mVar 1) (mNil))) (mgName 4) (b__law_pages_2)) (mRet (mVar 3)))))
noncomputable def m__law_pages : List D → MH → R D := mFn 2 6 b__law_pages
noncomputable def b__law_pages_for_1 : MSt :=
  mSetIx2 (mVar 1) (mOp opIx (mVar 0) (mC (.int 0))) (mOp opAddL (mVar 3) (mVar 4))
noncomputable def b__law_pages_for : MSt :=
  mSeq (mSet 3 (mCall m__law_pages (mCons (mVar 0) (mCons (mVar 2) (mNil))))) (mSeq (mFor (mCallI fRange1 (mCons (mVar 2) (mNil))) (mgName 4) (b__law_pages_for_1)) (mRet (mOp opMul (mC (.int 8)) (mVar 3))))
noncomputable def m__law_pages_for : List D → MH → R D := mFn 3 5 b__law_pages_for
noncomputable def b__law_cell_1 : MSt :=
  mSetIx2 (mC (.int 0)) (mVar 4) (mVar 5)
noncomputable def b__law_cell : MSt :=
  mSeq (mSet 3 (mOp opIx (mOp opIx (mVar 0) (mC (.int 3))) (mVar 1))) (mSeq (mSetIx2 (mOp opAddL (mOp opIx (mOp opIx (mVar 0) (mC (.int 4))) (mVar 1)) (mVar 2)) (mOp opIx (mVar 0) (mC (.int 4))) (mVar 1)) (mSeq (mIfS (mB (mOp opGt (mVar 2) (mC (.int 8)))) (mRet (mCall m__law_pages_for (mCons (mVar 0) (mCons (mVar 1) (mCons (mOp opDiv (mOp opAddL (mVar 2) (mC (.int 7))) (mC (.int 8))) (mNil)))))) (mNext)) (mSeq (mIfS (mB (mOp opLt (mOp opIx (mVar 3) (mC (.int 1))) (mVar 2))) (mSeq (mSetIx2 (mCall m__law_pages_for (mCons (mVar 0) (mCons (mVar 1) (mCons (mC (.int 1)) (mNil))))) (mVar 3) (mC (.int 0))) (mSetIx2 (mC (.int 8)) (mVar 3) (mC (.int 1)))) (mNext)) (mSeq (mSetIx2 (mOp opAddL (mOp opIx (mVar 3) (mC (.int 0))) (mVar 2)) (mVar 3) (mC (.int 0))) (mSeq (mSetIx2 (mOp opSub (mOp opIx (mVar 3) (mC (.int 1))) (mVar 2)) (mVar 3) (mC (.int 1))) (mSeq (mSet 4 (mOp opIx (mVar 0) (mC (.int 1)))) (mSeq (mFor (mCallI fRange2 (mCons (mOp opSub (mOp opIx (mVar 3) (mC (.int 0))) (mVar 2)) (mCons (mOp opIx (mVar 3) (mC (.int 0))) (mNil)))) (mgName 5) (b__law_cell_1)) (mRet (mOp opSub (mOp opIx (mVar 3) (mC (.int 0))) (mVar 2))))))))))
noncomputable def m__law_cell : List D → MH → R D := mFn 3 6 b__law_cell
noncomputable def b__law_begin : MSt :=
  mSeq (mDrop (mMtd "list" fAppend (mOp opIx (mVar 0) (mC (.int 2))) (mCons (mC (.bl true)) (mNil)))) (mSeq (mDrop (mMtd "list" fAppend (mOp opIx (mVar 0) (mC (.int 3))) (mCons (mLstN (mCons (mC (.int 0)) (mCons (mC (.int 0)) (mNil)))) (mNil)))) (mSeq (mDrop (mMtd "list" fAppend (mOp opIx (mVar 0) (mC (.int 4))) (mCons (mC (.int 0)) (mNil)))) (mRet (mOp opSub (mCall fLen (mCons (mOp opIx (mVar 0) (mC (.int 2))) (mNil))) (mC (.int 1))))))
noncomputable def m__law_begin : List D → MH → R D := mFnN 1 1 b__law_begin
noncomputable def b__law_owner : MSt :=
  mSeq (mIfS (mOr (mB (mOp opLt (mVar 1) (mC (.int 0)))) (mB (mOp opGe (mVar 1) (mCall fLen (mCons (mOp opIx (mVar 0) (mC (.int 1))) (mNil)))))) (mRet (mUn opNeg (mC (.int 1)))) (mNext)) (mRet (mOp opIx (mOp opIx (mVar 0) (mC (.int 0))) (mOp opDiv (mVar 1) (mC (.int 8)))))
noncomputable def m__law_owner : List D → MH → R D := mFn 2 2 b__law_owner
noncomputable def b__law_entry : MSt :=
  mSeq (mIfS (mB (mOp opEq (mOp opIx (mVar 1) (mC (.int 0))) (mC (.str "begin")))) (mRet (mTup (mCons (mC (.str "begin")) (mCons (mCall m__law_begin (mCons (mVar 0) (mNil))) (mCons (mC (.int 0)) (mNil)))))) (mNext)) (mSeq (mIfS (mB (mOp opIn2 (mOp opIx (mVar 1) (mC (.int 0))) (mTup (mCons (mC (.str "read")) (mCons (mC (.str "write")) (mNil)))))) (mRet (mTup (mCons (mOp opIx (mVar 1) (mC (.int 0))) (mCons (mCall m__law_owner (mCons (mVar 0) (mCons (mOp opIx (mVar 1) (mC (.int 1))) (mNil)))) (mCons (mOp opIx (mVar 1) (mC (.int 1))) (mNil)))))) (mNext)) (mSeq (mSet 2 (mOp opIx (mVar 1) (mC (.int 1)))) (mSeq (mIfS (mOr (mB (mOp opLt (mVar 2) (mC (.int 0)))) (mOr (mB (mOp opGe (mVar 2) (mCall fLen (mCons (mOp opIx (mVar 0) (mC (.int 2))) (mNil))))) (mNot (mTru (mOp opIx (mOp opIx (mVar 0) (mC (.int 2))) (mVar 2)))))) (mRet (mC .non)) (mNext)) (mSeq (mIfS (mB (mOp opEq (mOp opIx (mVar 1) (mC (.int 0))) (mC (.str "end")))) (mSeq (mDrop (mCall m__law_end (mCons (mVar 0) (mCons (mVar 2) (mNil))))) (mRet (mTup (mCons (mC (.str "end")) (mCons (mVar 2) (mCons (mC (.int 0)) (mNil))))))) (mNext)) (mSeq (mIfS (mB (mOp opLt (mOp opIx (mVar 1) (mC (.int 2))) (mC (.int 1)))) (mRet (mC .non)) (mNext)) (mRet (mTup (mCons (mC (.str "cell")) (mCons (mVar 2) (mCons (mCall m__law_cell (mCons (mVar 0) (mCons (mVar 2) (mCons (mOp opIx (mVar 1) (mC (.int 2))) (mNil))))) (mNil)))))))))))
noncomputable def m__law_entry : List D → MH → R D := mFnN 2 3 b__law_entry
noncomputable def b__law_deed : MSt :=
  mSeq (mSet 2 (mCall m__law_draw (mCons (mVar 0) (mCons (mC (.int 7)) (mNil))))) (mSeq (mSet 3 (mOp opSub (mCall m__law_draw (mCons (mVar 0) (mCons (mOp opAddL (mVar 1) (mC (.int 3))) (mNil)))) (mC (.int 1)))) (mSeq (mIfS (mB (mOp opEq (mVar 2) (mC (.int 0)))) (mRet (mTup (mCons (mC (.str "begin")) (mNil)))) (mNext)) (mSeq (mIfS (mB (mOp opLt (mVar 2) (mC (.int 3)))) (mSeq (mSet 4 (mOp opAddL (mC (.int 1)) (mCall m__law_draw (mCons (mVar 0) (mCons (mC (.int 10)) (mNil)))))) (mSeq (mIfS (mB (mOp opEq (mCall m__law_draw (mCons (mVar 0) (mCons (mC (.int 5)) (mNil)))) (mC (.int 1)))) (mSet 4 (mOp opSub (mCall m__law_draw (mCons (mVar 0) (mCons (mC (.int 42)) (mNil)))) (mC (.int 1)))) (mNext)) (mRet (mTup (mCons (mC (.str "cell")) (mCons (mVar 3) (mCons (mVar 4) (mNil)))))))) (mNext)) (mSeq (mIfS (mB (mOp opEq (mVar 2) (mC (.int 3)))) (mRet (mTup (mCons (mC (.str "end")) (mCons (mVar 3) (mNil))))) (mNext)) (mSeq (mSet 5 (mOp opSub (mCall m__law_draw (mCons (mVar 0) (mCons (mC (.int 120)) (mNil)))) (mC (.int 6)))) (mSeq (mIfS (mB (mOp opEq (mVar 2) (mC (.int 4)))) (mSet 5 (mOp opSub (mCall m__law_draw (mCons (mVar 0) (mCons (mOp opPow (mC (.int 2)) (mC (.int 40))) (mNil)))) (mOp opPow (mC (.int 2)) (mC (.int 39))))) (mNext)) (mSeq (mIfS (mB (mOp opLt (mVar 2) (mC (.int 6)))) (mRet (mTup (mCons (mC (.str "read")) (mCons (mVar 5) (mNil))))) (mNext)) (mRet (mTup (mCons (mC (.str "write")) (mCons (mVar 5) (mCons (mOp opSub (mCall m__law_draw (mCons (mVar 0) (mCons (mOp opPow (mC (.int 2)) (mC (.int 36))) (mNil)))) (mOp opPow (mC (.int 2)) (mC (.int 35)))) (mNil)))))))))))))
noncomputable def m__law_deed : List D → MH → R D := mFn 2 6 b__law_deed
noncomputable def b_law_1 : MSt :=
  mSeq (mDrop (mMtd "list" fAppend (mVar 2) (mCons (mCall m__law_deed (mCons (mVar 1) (mCons (mVar 3) (mNil)))) (mNil)))) (mSet 3 (mOp opAddL (mVar 3) (mCall fInt (mCons (mOp opEq (mOp opIx (mOp opIx (mVar 2) (mUn opNeg (mC (.int 1)))) (mC (.int 0))) (mC (.str "begin"))) (mNil)))))
noncomputable def b_law_2 : MSt :=
  mSeq (mSet 8 (mCall m__law_entry (mCons (mVar 5) (mCons (mVar 7) (mNil))))) (mIfS (mB (mOp opNotN (mVar 8) (mC .non))) (mDrop (mMtd "list" fAppend (mVar 6) (mCons (mVar 8) (mNil)))) (mNext))
noncomputable def b_law : MSt :=
  mSeq (mSet 1 (mCall m__law_start (mCons (mVar 0) (mNil)))) (mSeq (mSet 2 (mLstN (mCons (mTup (mCons (mC (.str "begin")) (mNil))) (mNil)))) (mSeq (mIfS (mB (mOp opEq (mCall m__law_draw (mCons (mVar 1) (mCons (mC (.int 4)) (mNil)))) (mC (.int 1)))) (mSet 2 (mLstN (mNil))) (mNext)) (mSeq (mSet 3 (mC (.int 1))) (mSeq (mFor (mCallI fRange1 (mCons (mCall m__law_draw (mCons (mVar 1) (mCons (mC (.int 70)) (mNil)))) (mNil))) (mgName 4) (b_law_1)) (mSeq (mSet 5 (mCall m__law_new mNil)) (mSeq (mSet 6 (mLstN (mNil))) (mSeq (mFor (mSrc (mVar 2)) (mgName 7) (b_law_2)) (mSeq (mSet 9 (mCall fList (mCons (mVar 2) (mNil)))) (mSeq (mSet 10 (mCall m_replay (mCons (mVar 9) (mNil)))) (mSeq (mIfS (mOr (mNot (mTru (mCall fIsi (mCons (mVar 10) (mCons (mC (.ty "list")) (mNil)))))) (mOr (mB (mOp opNe (mCall fRepr (mCons (mVar 10) (mNil))) (mCall fRepr (mCons (mVar 6) (mNil))))) (mB (mOp opNe (mVar 9) (mVar 2))))) (mRet (mC (.bl false))) (mNext)) (mSeq (mDrop (mMtd "list" fAppend (mVar 10) (mCons (mC .non) (mNil)))) (mRet (mOp opEq (mCall m_replay (mCons (mVar 9) (mNil))) (mVar 6))))))))))))))
noncomputable def m_law : List D → MH → R D := mFn 1 11 b_law
section
variable {P : Program} {w : World} {K : PySem.W.Frag} {mg : Str → Option Value} {base : Heap}
theorem ok__law_start (T : Top P w K mg) : FnM P w K mg base 1 T.a__law_start T.f__law_start ["script"] m__law_start := by
  refine fnM_body T.d__law_start.fn sc__law_start hg_fnN fun cdv A outer s H E hr tk hp => ?_
  exact pssm_cons (ss 1 sc__law_start.nd (pem_int)) (pssm_cons (psm_for hp rfl (pim_src (mv 0)) (gn 2 sc__law_start.nd) (pssm_one (ss 1 sc__law_start.nd (pem_op op_add3 opAdd_ok (pem_op op_mod opMod_ok (pem_callTy call_int2 fInt_ok (by rfl) T.z_int (by decide +kernel) (pam_cons (pem_op op_add3 opAdd_ok (pem_op op_mul2 opMul_ok (mv 1) (pem_int)) (mv 2)) (pam_nil))) (pem_int)) (pem_int))))) (pssm_one (psm_ret (pem_lstN (pam_cons (pem_callTy call_list_of fList_ok (by rfl) T.z_list (by decide +kernel) (pam_cons (mv 0) (pam_nil))) (pam_cons (pem_int) (pam_cons (pem_int) (pam_cons (mv 1) (pam_nil)))))))))
theorem ok__law_new (T : Top P w K mg) : FnM P w K mg base 1 T.a__law_new T.f__law_new [] m__law_new := by
  refine fnM_body T.d__law_new.fn sc__law_new hg_fnN fun cdv A outer s H E hr tk hp => ?_
  exact pssm_one (psm_ret (pem_lstN (pam_cons (pem_lstN (pam_nil)) (pam_cons (pem_lstN (pam_nil)) (pam_cons (pem_lstN (pam_nil)) (pam_cons (pem_lstN (pam_nil)) (pam_cons (pem_lstN (pam_nil)) (pam_nil))))))))
theorem ok_Watch___enter__ (T : Top P w K mg) : FnM P w K mg base 1 T.a_Watch___enter__ T.f_Watch___enter__ ["self"] m_Watch___enter__ := by
  refine fnM_body T.d_Watch___enter__.fn sc_Watch___enter__ hg_fnN fun cdv A outer s H E hr tk hp => ?_
  exact pssm_cons (psm_fld (fldT_cons T.cls_Watch fldT_nil) (mv 0) (pem_lstN (pam_nil))) (pssm_cons (psm_fld (fldT_cons T.cls_Watch fldT_nil) (mv 0) (pem_bl)) (pssm_cons (psm_fld (fldT_cons T.cls_Store fldT_nil) (pem_fld (fldT_cons T.cls_Watch fldT_nil) (mv 0)) (mv 0)) (pssm_one (psm_ret (mv 0)))))
theorem ok_Watch___exit__ (T : Top P w K mg) : FnM P w K mg base 1 T.a_Watch___exit__ T.f_Watch___exit__ ["self", "kind", "value", "trace"] m_Watch___exit__ := by
  refine fnM_body T.d_Watch___exit__.fn sc_Watch___exit__ hg_fn fun cdv A outer s H E hr tk hp => ?_
  exact pssm_one (psm_fld (fldT_cons T.cls_Watch fldT_nil) (mv 0) (pem_bl))
theorem ok_Watch___init__ (T : Top P w K mg) : FnM P w K mg base 1 T.a_Watch___init__ T.f_Watch___init__ ["self", "store"] m_Watch___init__ := by
  refine fnM_body T.d_Watch___init__.fn sc_Watch___init__ hg_fnN fun cdv A outer s H E hr tk hp => ?_
  exact pssm_cons (psm_fld (fldT_cons T.cls_Watch fldT_nil) (mv 0) (mv 1)) (pssm_cons (psm_fld (fldT_cons T.cls_Watch fldT_nil) (mv 0) (pem_lstN (pam_nil))) (pssm_one (psm_fld (fldT_cons T.cls_Watch fldT_nil) (mv 0) (pem_bl))))
theorem ok_Store___init__ (T : Top P w K mg) : FnM P w K mg base 1 T.a_Store___init__ T.f_Store___init__ ["self"] m_Store___init__ := by
  refine fnM_body T.d_Store___init__.fn sc_Store___init__ hg_fnN fun cdv A outer s H E hr tk hp => ?_
  exact pssm_cons (psm_fld (fldT_cons T.cls_Region (fldT_cons T.cls_Store fldT_nil)) (mv 0) (pem_lstN (pam_nil))) (pssm_cons (psm_fld (fldT_cons T.cls_Store fldT_nil) (mv 0) (pem_lstN (pam_nil))) (pssm_cons (psm_fld (fldT_cons T.cls_Store fldT_nil) (mv 0) (pem_dicN)) (pssm_cons (psm_fld (fldT_cons T.cls_Store fldT_nil) (mv 0) (pem_int)) (pssm_cons (psm_fld (fldT_cons T.cls_Store fldT_nil) (mv 0) (pem_int)) (pssm_cons (psm_fld (fldT_cons T.cls_Store fldT_nil) (mv 0) (pem_int)) (pssm_one (psm_fld (fldT_cons T.cls_Store fldT_nil) (mv 0) (pem_non))))))))
theorem ok_Region___init__ (T : Top P w K mg) : FnM P w K mg base 1 T.a_Region___init__ T.f_Region___init__ ["self"] m_Region___init__ := by
  refine fnM_body T.d_Region___init__.fn sc_Region___init__ hg_fnN fun cdv A outer s H E hr tk hp => ?_
  exact pssm_cons (psm_fld (fldT_cons T.cls_Region (fldT_cons T.cls_Store fldT_nil)) (mv 0) (pem_int)) (pssm_cons (psm_fld (fldT_cons T.cls_Region fldT_nil) (mv 0) (pem_lstN (pam_nil))) (pssm_one (psm_fld (fldT_cons T.cls_Region fldT_nil) (mv 0) (pem_int))))
theorem ok_Store_note (T : Top P w K mg) : FnM P w K mg base 1 T.a_Store_note T.f_Store_note ["self", "what", "region", "address"] m_Store_note := by
  refine fnM_body T.d_Store_note.fn sc_Store_note hg_fn fun cdv A outer s H E hr tk hp => ?_
  exact pssm_one (psm_if (ptm_w (pwm_and (ptm_cmp op_notN opNotN_ok (nomark _) (pem_fld (fldT_cons T.cls_Store fldT_nil) (mv 0)) (pem_non)) (pwm_and1 (ptm_val (pem_fld (fldT_cons T.cls_Watch fldT_nil) (pem_fld (fldT_cons T.cls_Store fldT_nil) (mv 0))))))) (pssm_one (psm_expr (pem_bm PySem.F.plainAttrs_list PySem.F.slot_list_append PySem.F.type_list_append mt_append fAppend_ok (pem_fld (fldT_cons T.cls_Watch fldT_nil) (pem_fld (fldT_cons T.cls_Store fldT_nil) (mv 0))) (pam_cons (pem_tup (pam_cons (mv 1) (pam_cons (mv 2) (pam_cons (mv 3) (pam_nil))))) (pam_nil))))) (pssm_nil))
theorem ok_Store_begin (T : Top P w K mg) (k_Store_note : FnM P w K mg base 2 T.a_Store_note T.f_Store_note ["self", "what", "region", "address"] m_Store_note) (k_Region___init__ : FnM P w K mg base 1 T.a_Region___init__ T.f_Region___init__ ["self"] m_Region___init__) : FnM P w K mg base 3 T.a_Store_begin T.f_Store_begin ["self"] m_Store_begin := by
  refine fnM_body T.d_Store_begin.fn sc_Store_begin hg_fnN fun cdv A outer s H E hr tk hp => ?_
  exact pssm_cons (ss 1 sc_Store_begin.nd (pem_fld (fldT_cons T.cls_Store fldT_nil) (mv 0))) (pssm_cons (psm_fldAug (fldT_cons T.cls_Store fldT_nil) iop_addI opAddI_ok (mv 0) (pem_int)) (pssm_cons (psm_setIx2 hr.units (pem_make0 (qn := "") (st := .Pass ⟨0, 0, 0, 0⟩) T.cls_Region T.mk_Region k_Region___init__ T.d_Region___init__.bi hr tk (by rfl) T.mg_Region) (pem_fld (fldT_cons T.cls_Store fldT_nil) (mv 0)) (mv 1)) (pssm_cons (psm_expr (pem_meth T.cls_Store k_Store_note T.d_Store_note hr tk (mv 0) (pam_cons (pem_str) (pam_cons (mv 1) (pam_cons (pem_int) (pam_nil)))))) (pssm_one (psm_ret (mv 1))))))
theorem ok__begin (T : Top P w K mg) (k_Store_begin : FnM P w K mg base 3 T.a_Store_begin T.f_Store_begin ["self"] m_Store_begin) : FnM P w K mg base 4 T.a__begin T.f__begin ["store", "numbers"] m__begin := by
  refine fnM_body T.d__begin.fn sc__begin hg_fnN fun cdv A outer s H E hr tk hp => ?_
  exact pssm_one (psm_expr (pem_meth0 T.cls_Store k_Store_begin T.d_Store_begin hr tk (mv 0)))
theorem ok_Store_expect_current (T : Top P w K mg) : FnM P w K mg base 3 T.a_Store_expect_current T.f_Store_expect_current ["self", "region"] m_Store_expect_current := by
  refine fnM_body T.d_Store_expect_current.fn sc_Store_expect_current hg_fn fun cdv A outer s H E hr tk hp => ?_
  exact pssm_one (psm_if (ptm_cmp (op_nin3 hr.units) opNin2_ok rfl (mv 1) (pem_fld (fldT_cons T.cls_Store fldT_nil) (mv 0))) (pssm_one (ME.psm_raiseX T.x_StoreError rfl tk hr (by first | omega | exact Nat.le_trans (by decide) (Nat.le_add_right _ _)) (by decide) (by rfl) (pam_cons (pem_str) (pam_nil)))) (pssm_nil))
theorem ok_Store_blank (T : Top P w K mg) : FnM P w K mg base 1 T.a_Store_blank T.f_Store_blank ["self", "address", "many"] m_Store_blank := by
  refine fnM_body T.d_Store_blank.fn sc_Store_blank hg_fn fun cdv A outer s H E hr tk hp => ?_
  exact pssm_one (psm_cut (pem_op op_rep opRep_ok (pem_lstN (pam_cons (pem_int) (pam_nil))) (mv 2)) (pem_fld (fldT_cons T.cls_Region (fldT_cons T.cls_Store fldT_nil)) (mv 0)) (pom_some (mv 1)) (pom_some (pem_op op_addS opAddL_ok (mv 1) (mv 2))))
theorem ok_Store_first_row (T : Top P w K mg) : FnM P w K mg base 1 T.a_Store_first_row T.f_Store_first_row ["self", "many"] m_Store_first_row := by
  refine fnM_body T.d_Store_first_row.fn sc_Store_first_row hg_fn fun cdv A outer s H E hr tk hp => ?_
  exact pssm_cons (psm_if (ptm_cmp op_lt2 opCmp_ok (nomark _) (pem_fld (fldT_cons T.cls_Store fldT_nil) (mv 0)) (mv 1)) (pssm_one (psm_ret (pem_callB call_len2 fLen_ok (by rfl) T.z_len (by decide +kernel) (pam_cons (pem_fld (fldT_cons T.cls_Store fldT_nil) (mv 0)) (pam_nil))))) (pssm_nil)) (pssm_cons (ss 2 sc_Store_first_row.nd (pem_int)) (pssm_cons (psm_for hp rfl (pim_enum3 (by rfl) T.z_enumerate (pam_cons (pem_fld (fldT_cons T.cls_Store fldT_nil) (mv 0)) (pam_nil))) (pgm_seq rfl (pgsm_cons (gn 3 sc_Store_first_row.nd) (pgsm_cons (gn 4 sc_Store_first_row.nd) (pgsm_nil)))) (pssm_cons (ss 2 sc_Store_first_row.nd (pem_if (ptm_cmp (op_eq2 hr.units) opEq_ok (nomark _) (mv 4) (mk T.c_NOBODY)) (pem_op op_addS opAddL_ok (mv 2) (pem_int)) (pem_int))) (pssm_one (psm_if (ptm_cmp (op_eq2 hr.units) opEq_ok (nomark _) (mv 2) (mv 1)) (pssm_one (psm_ret (pem_op op_sub opSub_ok (pem_op op_addS opAddL_ok (mv 3) (pem_int)) (mv 1)))) (pssm_nil))))) (pssm_one (psm_ret (pem_callB call_len2 fLen_ok (by rfl) T.z_len (by decide +kernel) (pam_cons (pem_fld (fldT_cons T.cls_Store fldT_nil) (mv 0)) (pam_nil)))))))
theorem ok_Store_take_pages (T : Top P w K mg) (k_Store_first_row : FnM P w K mg base 1 T.a_Store_first_row T.f_Store_first_row ["self", "many"] m_Store_first_row) : FnM P w K mg base 2 T.a_Store_take_pages T.f_Store_take_pages ["self", "region", "many"] m_Store_take_pages := by
  refine fnM_body T.d_Store_take_pages.fn sc_Store_take_pages hg_fn fun cdv A outer s H E hr tk hp => ?_
  exact pssm_cons (ss 3 sc_Store_take_pages.nd (pem_meth T.cls_Store k_Store_first_row T.d_Store_first_row hr tk (mv 0) (pam_cons (mv 2) (pam_nil)))) (pssm_cons (psm_if (ptm_cmp (op_eq2 hr.units) opEq_ok (nomark _) (mv 3) (pem_callB call_len2 fLen_ok (by rfl) T.z_len (by decide +kernel) (pam_cons (pem_fld (fldT_cons T.cls_Store fldT_nil) (mv 0)) (pam_nil)))) (pssm_one (psm_expr (pem_bm PySem.F.plainAttrs_list PySem.F.slot_list_extend PySem.F.type_list_extend mt_extend2 fExtend_ok (pem_fld (fldT_cons T.cls_Region (fldT_cons T.cls_Store fldT_nil)) (mv 0)) (pam_cons (pem_op op_rep opRep_ok (pem_lstN (pam_cons (pem_int) (pam_nil))) (pem_op op_mul2 opMul_ok (mv 2) (mk T.c_PAGE_WORDS))) (pam_nil))))) (pssm_one (psm_fldAug (fldT_cons T.cls_Store fldT_nil) iop_sub opSub_ok (mv 0) (mv 2)))) (pssm_cons (psm_cut (pem_op op_rep opRep_ok (pem_lstN (pam_cons (mv 1) (pam_nil))) (mv 2)) (pem_fld (fldT_cons T.cls_Store fldT_nil) (mv 0)) (pom_some (mv 3)) (pom_some (pem_op op_addS opAddL_ok (mv 3) (mv 2)))) (pssm_cons (psm_expr (pem_bm PySem.F.plainAttrs_list PySem.F.slot_list_extend PySem.F.type_list_extend mt_extend2 fExtend_ok (pem_fld (fldT_cons T.cls_Region fldT_nil) (pem_ix (ix_all2 hr.units) opIx_ok (pem_fld (fldT_cons T.cls_Store fldT_nil) (mv 0)) (mv 1) (fun _ _ => rfl))) (pam_cons (pem_listRg rfl (by rfl) T.z_list (by rfl) T.z_range (mv 3) (pem_op op_addS opAddL_ok (mv 3) (mv 2))) (pam_nil)))) (pssm_one (psm_ret (pem_op op_mul2 opMul_ok (mv 3) (mk T.c_PAGE_WORDS)))))))
theorem ok_Store_take_room (T : Top P w K mg) (k_Store_take_pages : FnM P w K mg base 2 T.a_Store_take_pages T.f_Store_take_pages ["self", "region", "many"] m_Store_take_pages) : FnM P w K mg base 3 T.a_Store_take_room T.f_Store_take_room ["self", "region", "words"] m_Store_take_room := by
  refine fnM_body T.d_Store_take_room.fn sc_Store_take_room hg_fn fun cdv A outer s H E hr tk hp => ?_
  exact pssm_cons (ss 3 sc_Store_take_room.nd (pem_fld (fldT_cons T.cls_Region fldT_nil) (pem_ix (ix_all2 hr.units) opIx_ok (pem_fld (fldT_cons T.cls_Store fldT_nil) (mv 0)) (mv 1) (fun _ _ => rfl)))) (pssm_cons (psm_if (ptm_cmp op_lt2 opCmp_ok (nomark _) (pem_op op_mod opMod_ok (pem_un un_neg opNeg_ok (mv 3)) (mk T.c_PAGE_WORDS)) (mv 2)) (pssm_one (ss 3 sc_Store_take_room.nd (pem_meth T.cls_Store k_Store_take_pages T.d_Store_take_pages hr tk (mv 0) (pam_cons (mv 1) (pam_cons (pem_int) (pam_nil)))))) (pssm_nil)) (pssm_cons (psm_fld (fldT_cons T.cls_Region fldT_nil) (pem_ix (ix_all2 hr.units) opIx_ok (pem_fld (fldT_cons T.cls_Store fldT_nil) (mv 0)) (mv 1) (fun _ _ => rfl)) (pem_op op_addS opAddL_ok (mv 3) (mv 2))) (pssm_one (psm_ret (mv 3)))))
theorem ok_Store_cell (T : Top P w K mg) (k_Store_expect_current : FnM P w K mg base 3 T.a_Store_expect_current T.f_Store_expect_current ["self", "region"] m_Store_expect_current) (k_Store_take_pages : FnM P w K mg base 3 T.a_Store_take_pages T.f_Store_take_pages ["self", "region", "many"] m_Store_take_pages) (k_Store_take_room : FnM P w K mg base 3 T.a_Store_take_room T.f_Store_take_room ["self", "region", "words"] m_Store_take_room) (k_Store_blank : FnM P w K mg base 3 T.a_Store_blank T.f_Store_blank ["self", "address", "many"] m_Store_blank) (k_Store_note : FnM P w K mg base 3 T.a_Store_note T.f_Store_note ["self", "what", "region", "address"] m_Store_note) : FnM P w K mg base 4 T.a_Store_cell T.f_Store_cell ["self", "region", "words"] m_Store_cell := by
  refine fnM_body T.d_Store_cell.fn sc_Store_cell hg_fn fun cdv A outer s H E hr tk hp => ?_
  exact pssm_cons (psm_expr (pem_meth T.cls_Store k_Store_expect_current T.d_Store_expect_current hr tk (mv 0) (pam_cons (mv 1) (pam_nil)))) (pssm_cons (psm_if (ptm_cmp op_lt2 opCmp_ok (nomark _) (mv 2) (pem_int)) (pssm_one (ME.psm_raiseX T.x_StoreError rfl tk hr (by first | omega | exact Nat.le_trans (by decide) (Nat.le_add_right _ _)) (by decide) (by rfl) (pam_cons (pem_str) (pam_nil)))) (pssm_nil)) (pssm_cons (psm_if (ptm_cmp op_gt2 opCmp_ok (nomark _) (mv 2) (mk T.c_PAGE_WORDS)) (pssm_one (ss 3 sc_Store_cell.nd (pem_meth T.cls_Store k_Store_take_pages T.d_Store_take_pages hr tk (mv 0) (pam_cons (mv 1) (pam_cons (pem_op op_fdivW opDiv_ok (pem_op op_sub opSub_ok (pem_op op_addS opAddL_ok (mv 2) (mk T.c_PAGE_WORDS)) (pem_int)) (mk T.c_PAGE_WORDS)) (pam_nil)))))) (pssm_one (ss 3 sc_Store_cell.nd (pem_meth T.cls_Store k_Store_take_room T.d_Store_take_room hr tk (mv 0) (pam_cons (mv 1) (pam_cons (mv 2) (pam_nil))))))) (pssm_cons (psm_expr (pem_meth T.cls_Store k_Store_blank T.d_Store_blank hr tk (mv 0) (pam_cons (mv 3) (pam_cons (mv 2) (pam_nil))))) (pssm_cons (psm_fldAug (fldT_cons T.cls_Region (fldT_cons T.cls_Store fldT_nil)) iop_addI opAddI_ok (pem_ix (ix_all2 hr.units) opIx_ok (pem_fld (fldT_cons T.cls_Store fldT_nil) (mv 0)) (mv 1) (fun _ _ => rfl)) (mv 2)) (pssm_cons (psm_fldAug (fldT_cons T.cls_Store fldT_nil) iop_addI opAddI_ok (mv 0) (mv 2)) (pssm_cons (psm_expr (pem_meth T.cls_Store k_Store_note T.d_Store_note hr tk (mv 0) (pam_cons (pem_str) (pam_cons (mv 1) (pam_cons (mv 3) (pam_nil)))))) (pssm_one (psm_ret (mv 3)))))))))
theorem ok__cell (T : Top P w K mg) (k_Store_cell : FnM P w K mg base 4 T.a_Store_cell T.f_Store_cell ["self", "region", "words"] m_Store_cell) : FnM P w K mg base 5 T.a__cell T.f__cell ["store", "numbers"] m__cell := by
  refine fnM_body T.d__cell.fn sc__cell hg_fn fun cdv A outer s H E hr tk hp => ?_
  exact pssm_cons (psm_asg (mv 1) (pgm_seq rfl (pgsm_cons (gn 2 sc__cell.nd) (pgsm_cons (gn 3 sc__cell.nd) (pgsm_nil))))) (pssm_one (psm_expr (pem_meth T.cls_Store k_Store_cell T.d_Store_cell hr tk (mv 0) (pam_cons (mv 2) (pam_cons (mv 3) (pam_nil))))))
theorem ok_Store_end (T : Top P w K mg) (k_Store_expect_current : FnM P w K mg base 3 T.a_Store_expect_current T.f_Store_expect_current ["self", "region"] m_Store_expect_current) (k_Store_blank : FnM P w K mg base 3 T.a_Store_blank T.f_Store_blank ["self", "address", "many"] m_Store_blank) (k_Store_note : FnM P w K mg base 3 T.a_Store_note T.f_Store_note ["self", "what", "region", "address"] m_Store_note) : FnM P w K mg base 4 T.a_Store_end T.f_Store_end ["self", "region"] m_Store_end := by
  refine fnM_body T.d_Store_end.fn sc_Store_end hg_fn fun cdv A outer s H E hr tk hp => ?_
  exact pssm_cons (psm_expr (pem_meth T.cls_Store k_Store_expect_current T.d_Store_expect_current hr tk (mv 0) (pam_cons (mv 1) (pam_nil)))) (pssm_cons (ss 2 sc_Store_end.nd (pem_dpop (pem_fld (fldT_cons T.cls_Store fldT_nil) (mv 0)) (mv 1) ⟨rfl, rfl, rfl, rfl⟩)) (pssm_cons (psm_for hp rfl (pim_src (pem_callTy call_list_of fList_ok (by rfl) T.z_list (by decide +kernel) (pam_cons (pem_fld (fldT_cons T.cls_Region fldT_nil) (mv 2)) (pam_nil)))) (gn 3 sc_Store_end.nd) (pssm_cons (psm_setIx2 hr.units (mk T.c_NOBODY) (pem_fld (fldT_cons T.cls_Store fldT_nil) (mv 0)) (mv 3)) (pssm_one (psm_expr (pem_meth T.cls_Store k_Store_blank T.d_Store_blank hr tk (mv 0) (pam_cons (pem_op op_mul2 opMul_ok (mv 3) (mk T.c_PAGE_WORDS)) (pam_cons (mk T.c_PAGE_WORDS) (pam_nil)))))))) (pssm_cons (psm_fldAug (fldT_cons T.cls_Store fldT_nil) iop_addI opAddI_ok (mv 0) (pem_callB call_len2 fLen_ok (by rfl) T.z_len (by decide +kernel) (pam_cons (pem_fld (fldT_cons T.cls_Region fldT_nil) (mv 2)) (pam_nil)))) (pssm_cons (psm_fldAug (fldT_cons T.cls_Store fldT_nil) iop_sub opSub_ok (mv 0) (pem_fld (fldT_cons T.cls_Region (fldT_cons T.cls_Store fldT_nil)) (mv 2))) (pssm_one (psm_expr (pem_meth T.cls_Store k_Store_note T.d_Store_note hr tk (mv 0) (pam_cons (pem_str) (pam_cons (mv 1) (pam_cons (pem_int) (pam_nil)))))))))))
theorem ok__end (T : Top P w K mg) (k_Store_end : FnM P w K mg base 4 T.a_Store_end T.f_Store_end ["self", "region"] m_Store_end) : FnM P w K mg base 5 T.a__end T.f__end ["store", "numbers"] m__end := by
  refine fnM_body T.d__end.fn sc__end hg_fn fun cdv A outer s H E hr tk hp => ?_
  exact pssm_one (psm_expr (pem_meth T.cls_Store k_Store_end T.d_Store_end hr tk (mv 0) (pam_cons (pem_ix (ix_all2 hr.units) opIx_ok (mv 1) (pem_int) (fun _ _ => rfl)) (pam_nil))))
theorem ok_Store___contains__ (T : Top P w K mg) : FnM P w K mg base 1 T.a_Store___contains__ T.f_Store___contains__ ["self", "address"] m_Store___contains__ := by
  refine fnM_body T.d_Store___contains__.fn sc_Store___contains__ hg_fn fun cdv A outer s H E hr tk hp => ?_
  exact pssm_one (psm_ret (pem_chain op_le2 op_lt2 opCmp_ok opCmp_ok (pem_int) (mv 1) (pem_callB call_len2 fLen_ok (by rfl) T.z_len (by decide +kernel) (pam_cons (pem_fld (fldT_cons T.cls_Region (fldT_cons T.cls_Store fldT_nil)) (mv 0)) (pam_nil))) (by with_unfolding_all rfl)))
theorem ok_Store_owner (T : Top P w K mg) (k_Store___contains__ : FnM P w K mg base 1 T.a_Store___contains__ T.f_Store___contains__ ["self", "address"] m_Store___contains__) : FnM P w K mg base 2 T.a_Store_owner T.f_Store_owner ["self", "address"] m_Store_owner := by
  refine fnM_body T.d_Store_owner.fn sc_Store_owner hg_fn fun cdv A outer s H E hr tk hp => ?_
  exact pssm_one (psm_ret (pem_if (ptm_cmp (op_inOwn ⟨T.d_Store___contains__.me.at_, T.d_Store___contains__.me.fn⟩ k_Store___contains__ hr T.d_Store___contains__.bi fun _ => L2N.passAt takes0N _) (opInOwn_ok T.cls_Store) rfl (mv 1) (mv 0)) (pem_ix (ix_all2 hr.units) opIx_ok (pem_fld (fldT_cons T.cls_Store fldT_nil) (mv 0)) (pem_op op_fdivW opDiv_ok (mv 1) (mk T.c_PAGE_WORDS)) (fun _ _ => rfl)) (mk T.c_NOBODY)))
theorem ok_Store_read (T : Top P w K mg) (k_Store_note : FnM P w K mg base 2 T.a_Store_note T.f_Store_note ["self", "what", "region", "address"] m_Store_note) (k_Store_owner : FnM P w K mg base 2 T.a_Store_owner T.f_Store_owner ["self", "address"] m_Store_owner) (k_Store___contains__ : FnM P w K mg base 2 T.a_Store___contains__ T.f_Store___contains__ ["self", "address"] m_Store___contains__) : FnM P w K mg base 3 T.a_Store_read T.f_Store_read ["self", "address"] m_Store_read := by
  refine fnM_body T.d_Store_read.fn sc_Store_read hg_fn fun cdv A outer s H E hr tk hp => ?_
  exact pssm_cons (psm_expr (pem_meth T.cls_Store k_Store_note T.d_Store_note hr tk (mv 0) (pam_cons (pem_str) (pam_cons (pem_meth T.cls_Store k_Store_owner T.d_Store_owner hr tk (mv 0) (pam_cons (mv 1) (pam_nil))) (pam_cons (mv 1) (pam_nil)))))) (pssm_one (psm_ret (pem_if (ptm_cmp (op_inOwn ⟨T.d_Store___contains__.me.at_, T.d_Store___contains__.me.fn⟩ k_Store___contains__ hr T.d_Store___contains__.bi fun _ => L2N.passAt takes0N _) (opInOwn_ok T.cls_Store) rfl (mv 1) (mv 0)) (pem_ix (ix_all2 hr.units) opIx_ok (pem_fld (fldT_cons T.cls_Region (fldT_cons T.cls_Store fldT_nil)) (mv 0)) (mv 1) (fun _ _ => rfl)) (pem_int))))
theorem ok__read (T : Top P w K mg) (k_Store_read : FnM P w K mg base 3 T.a_Store_read T.f_Store_read ["self", "address"] m_Store_read) : FnM P w K mg base 4 T.a__read T.f__read ["store", "numbers"] m__read := by
  refine fnM_body T.d__read.fn sc__read hg_fn fun cdv A outer s H E hr tk hp => ?_
  exact pssm_one (psm_expr (pem_meth T.cls_Store k_Store_read T.d_Store_read hr tk (mv 0) (pam_cons (pem_ix (ix_all2 hr.units) opIx_ok (mv 1) (pem_int) (fun _ _ => rfl)) (pam_nil))))
theorem ok_Store_write (T : Top P w K mg) (k_Store_owner : FnM P w K mg base 2 T.a_Store_owner T.f_Store_owner ["self", "address"] m_Store_owner) (k_Store_note : FnM P w K mg base 2 T.a_Store_note T.f_Store_note ["self", "what", "region", "address"] m_Store_note) : FnM P w K mg base 3 T.a_Store_write T.f_Store_write ["self", "address", "word"] m_Store_write := by
  refine fnM_body T.d_Store_write.fn sc_Store_write hg_fn fun cdv A outer s H E hr tk hp => ?_
  exact pssm_cons (ss 3 sc_Store_write.nd (pem_meth T.cls_Store k_Store_owner T.d_Store_owner hr tk (mv 0) (pam_cons (mv 1) (pam_nil)))) (pssm_cons (psm_if (ptm_cmp (op_ne2 hr.units) opNe_ok (nomark _) (mv 3) (mk T.c_NOBODY)) (pssm_one (psm_setIx2 hr.units (mv 2) (pem_fld (fldT_cons T.cls_Region (fldT_cons T.cls_Store fldT_nil)) (mv 0)) (mv 1))) (pssm_nil)) (pssm_one (psm_expr (pem_meth T.cls_Store k_Store_note T.d_Store_note hr tk (mv 0) (pam_cons (pem_str) (pam_cons (mv 3) (pam_cons (mv 1) (pam_nil))))))))
theorem ok__write (T : Top P w K mg) (k_Store_write : FnM P w K mg base 3 T.a_Store_write T.f_Store_write ["self", "address", "word"] m_Store_write) : FnM P w K mg base 4 T.a__write T.f__write ["store", "numbers"] m__write := by
  refine fnM_body T.d__write.fn sc__write hg_fn fun cdv A outer s H E hr tk hp => ?_
  exact pssm_cons (psm_asg (mv 1) (pgm_seq rfl (pgsm_cons (gn 2 sc__write.nd) (pgsm_cons (gn 3 sc__write.nd) (pgsm_nil))))) (pssm_one (psm_expr (pem_meth T.cls_Store k_Store_write T.d_Store_write hr tk (mv 0) (pam_cons (mv 2) (pam_cons (mv 3) (pam_nil))))))
theorem ok__perform (T : Top P w K mg) (k__begin : FnM P w K mg base 5 T.a__begin T.f__begin ["store", "numbers"] m__begin) (k__cell : FnM P w K mg base 5 T.a__cell T.f__cell ["store", "numbers"] m__cell) (k__end : FnM P w K mg base 5 T.a__end T.f__end ["store", "numbers"] m__end) (k__read : FnM P w K mg base 5 T.a__read T.f__read ["store", "numbers"] m__read) (k__write : FnM P w K mg base 5 T.a__write T.f__write ["store", "numbers"] m__write) : FnM P w K mg base 6 T.a__perform T.f__perform ["store", "deed"] m__perform := by
  refine fnM_body T.d__perform.fn sc__perform hg_fnN fun cdv A outer s H E hr tk hp => ?_
  exact pssm_cons (psm_asgStar 2 3 rfl sc__perform.nd (mv 1)) (pssm_cons (ss 4 sc__perform.nd (pem_kix T.k_DEEDS (by rfl) (mv 2) (fun _ _ => rfl))) (pssm_one (psm_tryP T.y_StoreError rfl rfl (by rfl) (by decide) tk (fun W pn xe tk hp => pssm_one (psm_expr (pem_callV (tab := tab__perform_action) (mv 4) (tab_cons ⟨T.a__begin, T.f__begin, _, T.n__begin, k__begin, T.d__begin.fn.kp, T.d__begin.bi⟩ (tab_cons ⟨T.a__cell, T.f__cell, _, T.n__cell, k__cell, T.d__cell.fn.kp, T.d__cell.bi⟩ (tab_cons ⟨T.a__end, T.f__end, _, T.n__end, k__end, T.d__end.fn.kp, T.d__end.bi⟩ (tab_cons ⟨T.a__read, T.f__read, _, T.n__read, k__read, T.d__read.fn.kp, T.d__read.bi⟩ (tab_cons ⟨T.a__write, T.f__write, _, T.n__write, k__write, T.d__write.fn.kp, T.d__write.bi⟩ (tab_nil)))))) hr tk (pam_cons (mv 0) (pam_cons (mv 3) (pam_nil)))))) (fun xa pn => pssm_one (psm_pass)))))
theorem ok_replay (T : Top P w K mg) (k_Watch___enter__ : FnM P w K mg base 6 T.a_Watch___enter__ T.f_Watch___enter__ ["self"] m_Watch___enter__) (k_Watch___exit__ : FnM P w K mg base 6 T.a_Watch___exit__ T.f_Watch___exit__ ["self", "kind", "value", "trace"] m_Watch___exit__) (k__perform : FnM P w K mg base 6 T.a__perform T.f__perform ["store", "deed"] m__perform) (k_Watch___init__ : FnM P w K mg base 5 T.a_Watch___init__ T.f_Watch___init__ ["self", "store"] m_Watch___init__) (k_Store___init__ : FnM P w K mg base 5 T.a_Store___init__ T.f_Store___init__ ["self"] m_Store___init__) : FnM P w K mg base 7 T.a_replay T.f_replay ["deeds"] m_replay := by
  refine fnM_body T.d_replay.fn sc_replay hg_fnN fun cdv A outer s H E hr tk hp => ?_
  exact pssm_cons (psm_with T.cls_Watch k_Watch___enter__ T.d_Watch___enter__ k_Watch___exit__ T.d_Watch___exit__ hr tk (pem_make (qn := "") (st := .Pass ⟨0, 0, 0, 0⟩) T.cls_Watch T.mk_Watch k_Watch___init__ T.d_Watch___init__.bi hr tk (by rfl) T.mg_Watch (pam_cons (pem_make0 (qn := "") (st := .Pass ⟨0, 0, 0, 0⟩) T.cls_Store T.mk_Store k_Store___init__ T.d_Store___init__.bi hr tk (by rfl) T.mg_Store) (pam_nil))) (gn 1 sc_replay.nd) (fun W pn xe tk hp => pssm_one (psm_for hp rfl (pim_src (mv 0)) (gn 2 sc_replay.nd) (pssm_one (psm_expr (pem_call k__perform T.d__perform hr tk (by rfl) (pam_cons (pem_fld (fldT_cons T.cls_Watch fldT_nil) (mv 1)) (pam_cons (mv 2) (pam_nil))))))))) (pssm_one (psm_ret (pem_callTy call_list_of fListN_ok (by rfl) T.z_list (by decide +kernel) (pam_cons (pem_fld (fldT_cons T.cls_Watch fldT_nil) (mv 1)) (pam_nil)))))
theorem ok__law_draw (T : Top P w K mg) : FnM P w K mg base 1 T.a__law_draw T.f__law_draw ["state", "many"] m__law_draw := by
  refine fnM_body T.d__law_draw.fn sc__law_draw hg_fn fun cdv A outer s H E hr tk hp => ?_
  exact pssm_cons (psm_if (ptm_w (pwm_and (ptm_cmp (op_eq2 hr.units) opEq_ok (nomark _) (pem_ix (ix_all2 hr.units) opIx_ok (mv 0) (pem_int) (fun _ _ => rfl)) (pem_int)) (pwm_and1 (ptm_cmp op_ge2 opCmp_ok (nomark _) (pem_ix (ix_all2 hr.units) opIx_ok (mv 0) (pem_int) (fun _ _ => rfl)) (pem_callB call_len2 fLen_ok (by rfl) T.z_len (by decide +kernel) (pam_cons (pem_ix (ix_all2 hr.units) opIx_ok (mv 0) (pem_int) (fun _ _ => rfl)) (pam_nil))))))) (pssm_cons (psm_setIx2 hr.units (pem_op op_mod opMod_ok (pem_callTy call_int2 fInt_ok (by rfl) T.z_int (by decide +kernel) (pam_cons (pem_op op_add3 opAdd_ok (pem_op op_mul2 opMul_ok (pem_ix (ix_all2 hr.units) opIx_ok (mv 0) (pem_int) (fun _ _ => rfl)) (pem_int)) (pem_int)) (pam_nil))) (pem_int)) (mv 0) (pem_int)) (pssm_one (psm_ret (pem_op op_mod opMod_ok (pem_callTy call_int2 fInt_ok (by rfl) T.z_int (by decide +kernel) (pam_cons (pem_op op_fdivW opDiv_ok (pem_ix (ix_all2 hr.units) opIx_ok (mv 0) (pem_int) (fun _ _ => rfl)) (pem_int)) (pam_nil))) (mv 1))))) (pssm_nil)) (pssm_cons (psm_if (ptm_cmp (op_eq2 hr.units) opEq_ok (nomark _) (pem_ix (ix_all2 hr.units) opIx_ok (mv 0) (pem_int) (fun _ _ => rfl)) (pem_int)) (pssm_cons (psm_setIx2 hr.units (pem_callB call_abs fAbs_ok (by rfl) T.z_abs (by decide +kernel) (pam_cons (pem_ix (ix_all2 hr.units) opIx_ok (pem_ix (ix_all2 hr.units) opIx_ok (mv 0) (pem_int) (fun _ _ => rfl)) (pem_ix (ix_all2 hr.units) opIx_ok (mv 0) (pem_int) (fun _ _ => rfl)) (fun _ _ => rfl)) (pam_nil))) (mv 0) (pem_int)) (pssm_one (psm_setIx2 hr.units (pem_op op_add3 opAdd_ok (pem_ix (ix_all2 hr.units) opIx_ok (mv 0) (pem_int) (fun _ _ => rfl)) (pem_int)) (mv 0) (pem_int)))) (pssm_nil)) (pssm_cons (ss 2 sc__law_draw.nd (pem_op op_mod opMod_ok (pem_callTy call_int2 fInt_ok (by rfl) T.z_int (by decide +kernel) (pam_cons (pem_ix (ix_all2 hr.units) opIx_ok (mv 0) (pem_int) (fun _ _ => rfl)) (pam_nil))) (mv 1))) (pssm_cons (psm_setIx2 hr.units (pem_op op_fdivW opDiv_ok (pem_ix (ix_all2 hr.units) opIx_ok (mv 0) (pem_int) (fun _ _ => rfl)) (mv 1)) (mv 0) (pem_int)) (pssm_one (psm_ret (mv 2))))))
theorem ok__law_end (T : Top P w K mg) : FnM P w K mg base 1 T.a__law_end T.f__law_end ["model", "region"] m__law_end := by
  refine fnM_body T.d__law_end.fn sc__law_end hg_fn fun cdv A outer s H E hr tk hp => ?_
  exact pssm_cons (psm_setIx2 hr.units (pem_bl) (pem_ix (ix_all2 hr.units) opIx_ok (mv 0) (pem_int) (fun _ _ => rfl)) (mv 1)) (pssm_one (psm_for hp rfl (pim_range1 (by rfl) T.z_range (pam_cons (pem_callB call_len2 fLen_ok (by rfl) T.z_len (by decide +kernel) (pam_cons (pem_ix (ix_all2 hr.units) opIx_ok (mv 0) (pem_int) (fun _ _ => rfl)) (pam_nil))) (pam_nil))) (gn 2 sc__law_end.nd) (pssm_one (psm_if (ptm_cmp (op_eq2 hr.units) opEq_ok (nomark _) (pem_ix (ix_all2 hr.units) opIx_ok (pem_ix (ix_all2 hr.units) opIx_ok (mv 0) (pem_int) (fun _ _ => rfl)) (mv 2) (fun _ _ => rfl)) (mv 1)) (pssm_cons (psm_setIx2 hr.units (pem_un un_neg opNeg_ok (pem_int)) (pem_ix (ix_all2 hr.units) opIx_ok (mv 0) (pem_int) (fun _ _ => rfl)) (mv 2)) (pssm_one (psm_for hp rfl (pim_range1 (by rfl) T.z_range (pam_cons (pem_int) (pam_nil))) (gn 3 sc__law_end.nd) (pssm_one (psm_setIx2 hr.units (pem_int) (pem_ix (ix_all2 hr.units) opIx_ok (mv 0) (pem_int) (fun _ _ => rfl)) (pem_op op_addS opAddL_ok (pem_op op_mul2 opMul_ok (pem_int) (mv 2)) (mv 3))))))) (pssm_nil)))))
theorem ok__law_pages (T : Top P w K mg) : FnM P w K mg base 1 T.a__law_pages T.f__law_pages ["model", "many"] m__law_pages := by
  refine fnM_body T.d__law_pages.fn sc__law_pages hg_fn fun cdv A outer s H E hr tk hp => ?_
  exact pssm_cons (ss 2 sc__law_pages.nd (pem_ix (ix_all2 hr.units) opIx_ok (mv 0) (pem_int) (fun _ _ => rfl))) (pssm_cons (psm_for hp rfl (pim_range1 (by rfl) T.z_range (pam_cons (pem_callB call_len2 fLen_ok (by rfl) T.z_len (by decide +kernel) (pam_cons (mv 2) (pam_nil))) (pam_nil))) (gn 3 sc__law_pages.nd) (pssm_one (psm_if (ptm_cmp (op_eq2 hr.units) opEq_ok (nomark _) (pem_slice sl_all opSl_ok (mv 2) (pom_some (mv 3)) (pom_some (pem_op op_addS opAddL_ok (mv 3) (mv 1)))) (pem_lc (own := [("k", 4)]) rfl sc__law_pages.nd (pim_range1 (by rfl) T.z_range (pam_cons (mv 1) (pam_nil))) (blkOk_by (N := ["model", "many", "owners", "first", "k", "j"]) (sc := defScope s__law_pages) (by decide +kernel)) (by decide) (fun _ _ _ _ _ => gn 4 sc__law_pages.nd) (fun _ _ _ _ _ => ptsm_nil) (fun _ _ _ _ _ => pem_un un_neg opNeg_ok (pem_int)))) (pssm_one (psm_ret (mv 3))) (pssm_nil)))) (pssm_cons (ss 3 sc__law_pages.nd (pem_callB call_len2 fLen_ok (by rfl) T.z_len (by decide +kernel) (pam_cons (mv 2) (pam_nil)))) (pssm_cons (psm_for hp rfl (pim_range1 (by rfl) T.z_range (pam_cons (mv 1) (pam_nil))) (gn 4 sc__law_pages.nd) (pssm_cons (psm_expr (pem_bm PySem.F.plainAttrs_list PySem.F.slot_list_append PySem.F.type_list_append mt_append fAppend_ok (mv 2) (pam_cons (pem_un un_neg opNeg_ok (pem_int)) (pam_nil)))) (pssm_one (psm_expr (pem_bm PySem.F.plainAttrs_list PySem.F.slot_list_extend PySem.F.type_list_extend mt_extend2 fExtend_ok (pem_ix (ix_all2 hr.units) opIx_ok (mv 0) (pem_int) (fun _ _ => rfl)) (pam_cons (pem_lc (own := [("j", 5)]) rfl sc__law_pages.nd (pim_range1 (by rfl) T.z_range (pam_cons (pem_int) (pam_nil))) (blkOk_by (N := ["model", "many", "owners", "first", "k", "j"]) (sc := defScope s__law_pages) (by decide +kernel)) (by decide) (fun _ _ _ _ _ => gn 5 sc__law_pages.nd) (fun _ _ _ _ _ => ptsm_nil) (fun _ _ _ _ _ => pem_int)) (pam_nil))))))) (pssm_one (psm_ret (mv 3))))))
theorem ok__law_pages_for (T : Top P w K mg) (k__law_pages : FnM P w K mg base 1 T.a__law_pages T.f__law_pages ["model", "many"] m__law_pages) : FnM P w K mg base 2 T.a__law_pages_for T.f__law_pages_for ["model", "region", "many"] m__law_pages_for := by
  refine fnM_body T.d__law_pages_for.fn sc__law_pages_for hg_fn fun cdv A outer s H E hr tk hp => ?_
  exact pssm_cons (ss 3 sc__law_pages_for.nd (pem_call k__law_pages T.d__law_pages hr tk (by rfl) (pam_cons (mv 0) (pam_cons (mv 2) (pam_nil))))) (pssm_cons (psm_for hp rfl (pim_range1 (by rfl) T.z_range (pam_cons (mv 2) (pam_nil))) (gn 4 sc__law_pages_for.nd) (pssm_one (psm_setIx2 hr.units (mv 1) (pem_ix (ix_all2 hr.units) opIx_ok (mv 0) (pem_int) (fun _ _ => rfl)) (pem_op op_addS opAddL_ok (mv 3) (mv 4))))) (pssm_one (psm_ret (pem_op op_mul2 opMul_ok (pem_int) (mv 3)))))
theorem ok__law_cell (T : Top P w K mg) (k__law_pages_for : FnM P w K mg base 2 T.a__law_pages_for T.f__law_pages_for ["model", "region", "many"] m__law_pages_for) : FnM P w K mg base 3 T.a__law_cell T.f__law_cell ["model", "region", "words"] m__law_cell := by
  refine fnM_body T.d__law_cell.fn sc__law_cell hg_fn fun cdv A outer s H E hr tk hp => ?_
  exact pssm_cons (ss 3 sc__law_cell.nd (pem_ix (ix_all2 hr.units) opIx_ok (pem_ix (ix_all2 hr.units) opIx_ok (mv 0) (pem_int) (fun _ _ => rfl)) (mv 1) (fun _ _ => rfl))) (pssm_cons (psm_setIx2 hr.units (pem_op op_addS opAddL_ok (pem_ix (ix_all2 hr.units) opIx_ok (pem_ix (ix_all2 hr.units) opIx_ok (mv 0) (pem_int) (fun _ _ => rfl)) (mv 1) (fun _ _ => rfl)) (mv 2)) (pem_ix (ix_all2 hr.units) opIx_ok (mv 0) (pem_int) (fun _ _ => rfl)) (mv 1)) (pssm_cons (psm_if (ptm_cmp op_gt2 opCmp_ok (nomark _) (mv 2) (pem_int)) (pssm_one (psm_ret (pem_call k__law_pages_for T.d__law_pages_for hr tk (by rfl) (pam_cons (mv 0) (pam_cons (mv 1) (pam_cons (pem_op op_fdivW opDiv_ok (pem_op op_addS opAddL_ok (mv 2) (pem_int)) (pem_int)) (pam_nil))))))) (pssm_nil)) (pssm_cons (psm_if (ptm_cmp op_lt2 opCmp_ok (nomark _) (pem_ix (ix_all2 hr.units) opIx_ok (mv 3) (pem_int) (fun _ _ => rfl)) (mv 2)) (pssm_cons (psm_setIx2 hr.units (pem_call k__law_pages_for T.d__law_pages_for hr tk (by rfl) (pam_cons (mv 0) (pam_cons (mv 1) (pam_cons (pem_int) (pam_nil))))) (mv 3) (pem_int)) (pssm_one (psm_setIx2 hr.units (pem_int) (mv 3) (pem_int)))) (pssm_nil)) (pssm_cons (psm_setIx2 hr.units (pem_op op_addS opAddL_ok (pem_ix (ix_all2 hr.units) opIx_ok (mv 3) (pem_int) (fun _ _ => rfl)) (mv 2)) (mv 3) (pem_int)) (pssm_cons (psm_setIx2 hr.units (pem_op op_sub opSub_ok (pem_ix (ix_all2 hr.units) opIx_ok (mv 3) (pem_int) (fun _ _ => rfl)) (mv 2)) (mv 3) (pem_int)) (pssm_cons (ss 4 sc__law_cell.nd (pem_ix (ix_all2 hr.units) opIx_ok (mv 0) (pem_int) (fun _ _ => rfl))) (pssm_cons (psm_for hp rfl (pim_range2 (by rfl) T.z_range (pam_cons (pem_op op_sub opSub_ok (pem_ix (ix_all2 hr.units) opIx_ok (mv 3) (pem_int) (fun _ _ => rfl)) (mv 2)) (pam_cons (pem_ix (ix_all2 hr.units) opIx_ok (mv 3) (pem_int) (fun _ _ => rfl)) (pam_nil)))) (gn 5 sc__law_cell.nd) (pssm_one (psm_setIx2 hr.units (pem_int) (mv 4) (mv 5)))) (pssm_one (psm_ret (pem_op op_sub opSub_ok (pem_ix (ix_all2 hr.units) opIx_ok (mv 3) (pem_int) (fun _ _ => rfl)) (mv 2)))))))))))
theorem ok__law_begin (T : Top P w K mg) : FnM P w K mg base 1 T.a__law_begin T.f__law_begin ["model"] m__law_begin := by
  refine fnM_body T.d__law_begin.fn sc__law_begin hg_fnN fun cdv A outer s H E hr tk hp => ?_
  exact pssm_cons (psm_expr (pem_bm PySem.F.plainAttrs_list PySem.F.slot_list_append PySem.F.type_list_append mt_append fAppend_ok (pem_ix (ix_all2 hr.units) opIx_ok (mv 0) (pem_int) (fun _ _ => rfl)) (pam_cons (pem_bl) (pam_nil)))) (pssm_cons (psm_expr (pem_bm PySem.F.plainAttrs_list PySem.F.slot_list_append PySem.F.type_list_append mt_append fAppend_ok (pem_ix (ix_all2 hr.units) opIx_ok (mv 0) (pem_int) (fun _ _ => rfl)) (pam_cons (pem_lstN (pam_cons (pem_int) (pam_cons (pem_int) (pam_nil)))) (pam_nil)))) (pssm_cons (psm_expr (pem_bm PySem.F.plainAttrs_list PySem.F.slot_list_append PySem.F.type_list_append mt_append fAppend_ok (pem_ix (ix_all2 hr.units) opIx_ok (mv 0) (pem_int) (fun _ _ => rfl)) (pam_cons (pem_int) (pam_nil)))) (pssm_one (psm_ret (pem_op op_sub opSub_ok (pem_callB call_len2 fLen_ok (by rfl) T.z_len (by decide +kernel) (pam_cons (pem_ix (ix_all2 hr.units) opIx_ok (mv 0) (pem_int) (fun _ _ => rfl)) (pam_nil))) (pem_int))))))
theorem ok__law_owner (T : Top P w K mg) : FnM P w K mg base 1 T.a__law_owner T.f__law_owner ["model", "address"] m__law_owner := by
  refine fnM_body T.d__law_owner.fn sc__law_owner hg_fn fun cdv A outer s H E hr tk hp => ?_
  exact pssm_cons (psm_if (ptm_w (pwm_or (ptm_cmp op_lt2 opCmp_ok (nomark _) (mv 1) (pem_int)) (pwm_or1 (ptm_cmp op_ge2 opCmp_ok (nomark _) (mv 1) (pem_callB call_len2 fLen_ok (by rfl) T.z_len (by decide +kernel) (pam_cons (pem_ix (ix_all2 hr.units) opIx_ok (mv 0) (pem_int) (fun _ _ => rfl)) (pam_nil))))))) (pssm_one (psm_ret (pem_un un_neg opNeg_ok (pem_int)))) (pssm_nil)) (pssm_one (psm_ret (pem_ix (ix_all2 hr.units) opIx_ok (pem_ix (ix_all2 hr.units) opIx_ok (mv 0) (pem_int) (fun _ _ => rfl)) (pem_op op_fdivW opDiv_ok (mv 1) (pem_int)) (fun _ _ => rfl))))
theorem ok__law_entry (T : Top P w K mg) (k__law_begin : FnM P w K mg base 3 T.a__law_begin T.f__law_begin ["model"] m__law_begin) (k__law_owner : FnM P w K mg base 3 T.a__law_owner T.f__law_owner ["model", "address"] m__law_owner) (k__law_end : FnM P w K mg base 3 T.a__law_end T.f__law_end ["model", "region"] m__law_end) (k__law_cell : FnM P w K mg base 3 T.a__law_cell T.f__law_cell ["model", "region", "words"] m__law_cell) : FnM P w K mg base 4 T.a__law_entry T.f__law_entry ["model", "deed"] m__law_entry := by
  refine fnM_body T.d__law_entry.fn sc__law_entry hg_fnN fun cdv A outer s H E hr tk hp => ?_
  exact pssm_cons (psm_if (ptm_cmp (op_eq2 hr.units) opEq_ok (nomark _) (pem_ix (ix_all2 hr.units) opIx_ok (mv 1) (pem_int) (fun _ _ => rfl)) (pem_str)) (pssm_one (psm_ret (pem_tup (pam_cons (pem_str) (pam_cons (pem_call k__law_begin T.d__law_begin hr tk (by rfl) (pam_cons (mv 0) (pam_nil))) (pam_cons (pem_int) (pam_nil))))))) (pssm_nil)) (pssm_cons (psm_if (ptm_cmp (op_in3 hr.units) opIn2_ok rfl (pem_ix (ix_all2 hr.units) opIx_ok (mv 1) (pem_int) (fun _ _ => rfl)) (pem_tup (pam_cons (pem_str) (pam_cons (pem_str) (pam_nil))))) (pssm_one (psm_ret (pem_tup (pam_cons (pem_ix (ix_all2 hr.units) opIx_ok (mv 1) (pem_int) (fun _ _ => rfl)) (pam_cons (pem_call k__law_owner T.d__law_owner hr tk (by rfl) (pam_cons (mv 0) (pam_cons (pem_ix (ix_all2 hr.units) opIx_ok (mv 1) (pem_int) (fun _ _ => rfl)) (pam_nil)))) (pam_cons (pem_ix (ix_all2 hr.units) opIx_ok (mv 1) (pem_int) (fun _ _ => rfl)) (pam_nil))))))) (pssm_nil)) (pssm_cons (ss 2 sc__law_entry.nd (pem_ix (ix_all2 hr.units) opIx_ok (mv 1) (pem_int) (fun _ _ => rfl))) (pssm_cons (psm_if (ptm_w (pwm_or (ptm_cmp op_lt2 opCmp_ok (nomark _) (mv 2) (pem_int)) (pwm_or (ptm_cmp op_ge2 opCmp_ok (nomark _) (mv 2) (pem_callB call_len2 fLen_ok (by rfl) T.z_len (by decide +kernel) (pam_cons (pem_ix (ix_all2 hr.units) opIx_ok (mv 0) (pem_int) (fun _ _ => rfl)) (pam_nil)))) (pwm_or1 (ptm_not (ptm_val (pem_ix (ix_all2 hr.units) opIx_ok (pem_ix (ix_all2 hr.units) opIx_ok (mv 0) (pem_int) (fun _ _ => rfl)) (mv 2) (fun _ _ => rfl)))))))) (pssm_one (psm_ret (pem_non))) (pssm_nil)) (pssm_cons (psm_if (ptm_cmp (op_eq2 hr.units) opEq_ok (nomark _) (pem_ix (ix_all2 hr.units) opIx_ok (mv 1) (pem_int) (fun _ _ => rfl)) (pem_str)) (pssm_cons (psm_expr (pem_call k__law_end T.d__law_end hr tk (by rfl) (pam_cons (mv 0) (pam_cons (mv 2) (pam_nil))))) (pssm_one (psm_ret (pem_tup (pam_cons (pem_str) (pam_cons (mv 2) (pam_cons (pem_int) (pam_nil)))))))) (pssm_nil)) (pssm_cons (psm_if (ptm_cmp op_lt2 opCmp_ok (nomark _) (pem_ix (ix_all2 hr.units) opIx_ok (mv 1) (pem_int) (fun _ _ => rfl)) (pem_int)) (pssm_one (psm_ret (pem_non))) (pssm_nil)) (pssm_one (psm_ret (pem_tup (pam_cons (pem_str) (pam_cons (mv 2) (pam_cons (pem_call k__law_cell T.d__law_cell hr tk (by rfl) (pam_cons (mv 0) (pam_cons (mv 2) (pam_cons (pem_ix (ix_all2 hr.units) opIx_ok (mv 1) (pem_int) (fun _ _ => rfl)) (pam_nil))))) (pam_nil))))))))))))
theorem ok__law_deed (T : Top P w K mg) (k__law_draw : FnM P w K mg base 1 T.a__law_draw T.f__law_draw ["state", "many"] m__law_draw) : FnM P w K mg base 2 T.a__law_deed T.f__law_deed ["state", "many"] m__law_deed := by
  refine fnM_body T.d__law_deed.fn sc__law_deed hg_fn fun cdv A outer s H E hr tk hp => ?_
  exact pssm_cons (ss 2 sc__law_deed.nd (pem_call k__law_draw T.d__law_draw hr tk (by rfl) (pam_cons (mv 0) (pam_cons (pem_int) (pam_nil))))) (pssm_cons (ss 3 sc__law_deed.nd (pem_op op_sub opSub_ok (pem_call k__law_draw T.d__law_draw hr tk (by rfl) (pam_cons (mv 0) (pam_cons (pem_op op_addS opAddL_ok (mv 1) (pem_int)) (pam_nil)))) (pem_int))) (pssm_cons (psm_if (ptm_cmp (op_eq2 hr.units) opEq_ok (nomark _) (mv 2) (pem_int)) (pssm_one (psm_ret (pem_tup (pam_cons (pem_str) (pam_nil))))) (pssm_nil)) (pssm_cons (psm_if (ptm_cmp op_lt2 opCmp_ok (nomark _) (mv 2) (pem_int)) (pssm_cons (ss 4 sc__law_deed.nd (pem_op op_addS opAddL_ok (pem_int) (pem_call k__law_draw T.d__law_draw hr tk (by rfl) (pam_cons (mv 0) (pam_cons (pem_int) (pam_nil)))))) (pssm_cons (psm_if (ptm_cmp (op_eq2 hr.units) opEq_ok (nomark _) (pem_call k__law_draw T.d__law_draw hr tk (by rfl) (pam_cons (mv 0) (pam_cons (pem_int) (pam_nil)))) (pem_int)) (pssm_one (ss 4 sc__law_deed.nd (pem_op op_sub opSub_ok (pem_call k__law_draw T.d__law_draw hr tk (by rfl) (pam_cons (mv 0) (pam_cons (pem_int) (pam_nil)))) (pem_int)))) (pssm_nil)) (pssm_one (psm_ret (pem_tup (pam_cons (pem_str) (pam_cons (mv 3) (pam_cons (mv 4) (pam_nil))))))))) (pssm_nil)) (pssm_cons (psm_if (ptm_cmp (op_eq2 hr.units) opEq_ok (nomark _) (mv 2) (pem_int)) (pssm_one (psm_ret (pem_tup (pam_cons (pem_str) (pam_cons (mv 3) (pam_nil)))))) (pssm_nil)) (pssm_cons (ss 5 sc__law_deed.nd (pem_op op_sub opSub_ok (pem_call k__law_draw T.d__law_draw hr tk (by rfl) (pam_cons (mv 0) (pam_cons (pem_int) (pam_nil)))) (pem_int))) (pssm_cons (psm_if (ptm_cmp (op_eq2 hr.units) opEq_ok (nomark _) (mv 2) (pem_int)) (pssm_one (ss 5 sc__law_deed.nd (pem_op op_sub opSub_ok (pem_call k__law_draw T.d__law_draw hr tk (by rfl) (pam_cons (mv 0) (pam_cons (pem_op op_pow opPow_ok (pem_int) (pem_int)) (pam_nil)))) (pem_op op_pow opPow_ok (pem_int) (pem_int))))) (pssm_nil)) (pssm_cons (psm_if (ptm_cmp op_lt2 opCmp_ok (nomark _) (mv 2) (pem_int)) (pssm_one (psm_ret (pem_tup (pam_cons (pem_str) (pam_cons (mv 5) (pam_nil)))))) (pssm_nil)) (pssm_one (psm_ret (pem_tup (pam_cons (pem_str) (pam_cons (mv 5) (pam_cons (pem_op op_sub opSub_ok (pem_call k__law_draw T.d__law_draw hr tk (by rfl) (pam_cons (mv 0) (pam_cons (pem_op op_pow opPow_ok (pem_int) (pem_int)) (pam_nil)))) (pem_op op_pow opPow_ok (pem_int) (pem_int))) (pam_nil))))))))))))))
theorem ok_law (T : Top P w K mg) (k__law_start : FnM P w K mg base 7 T.a__law_start T.f__law_start ["script"] m__law_start) (k__law_draw : FnM P w K mg base 7 T.a__law_draw T.f__law_draw ["state", "many"] m__law_draw) (k__law_deed : FnM P w K mg base 7 T.a__law_deed T.f__law_deed ["state", "many"] m__law_deed) (k__law_new : FnM P w K mg base 7 T.a__law_new T.f__law_new [] m__law_new) (k__law_entry : FnM P w K mg base 7 T.a__law_entry T.f__law_entry ["model", "deed"] m__law_entry) (k_replay : FnM P w K mg base 7 T.a_replay T.f_replay ["deeds"] m_replay) : FnGM P w K mg base 8 T.a_law T.f_law ["script"] m_law := by
  refine fnG_body T.d_law.fn sc_law hg_fn fun cdv A outer s H E hgd hr tk hp => ?_
  exact pssm_cons (ss 1 sc_law.nd (pem_call k__law_start T.d__law_start hr tk (by rfl) (pam_cons (mv 0) (pam_nil)))) (pssm_cons (ss 2 sc_law.nd (pem_lstN (pam_cons (pem_tup (pam_cons (pem_str) (pam_nil))) (pam_nil)))) (pssm_cons (psm_if (ptm_cmp (op_eq2 hr.units) opEq_ok (nomark _) (pem_call k__law_draw T.d__law_draw hr tk (by rfl) (pam_cons (mv 1) (pam_cons (pem_int) (pam_nil)))) (pem_int)) (pssm_one (ss 2 sc_law.nd (pem_lstN (pam_nil)))) (pssm_nil)) (pssm_cons (ss 3 sc_law.nd (pem_int)) (pssm_cons (psm_for hp rfl (pim_range1 (by rfl) T.z_range (pam_cons (pem_call k__law_draw T.d__law_draw hr tk (by rfl) (pam_cons (mv 1) (pam_cons (pem_int) (pam_nil)))) (pam_nil))) (gn 4 sc_law.nd) (pssm_cons (psm_expr (pem_bm PySem.F.plainAttrs_list PySem.F.slot_list_append PySem.F.type_list_append mt_append fAppend_ok (mv 2) (pam_cons (pem_call k__law_deed T.d__law_deed hr tk (by rfl) (pam_cons (mv 1) (pam_cons (mv 3) (pam_nil)))) (pam_nil)))) (pssm_one (ss 3 sc_law.nd (pem_op op_addS opAddL_ok (mv 3) (pem_callTy call_int2 fInt_ok (by rfl) T.z_int (by decide +kernel) (pam_cons (pem_cmp (op_eq2 hr.units) opEq_ok (nomark _) (pem_ix (ix_all2 hr.units) opIx_ok (pem_ix (ix_all2 hr.units) opIx_ok (mv 2) (pem_un un_neg opNeg_ok (pem_int)) (fun _ _ => rfl)) (pem_int) (fun _ _ => rfl)) (pem_str)) (pam_nil)))))))) (pssm_cons (ss 5 sc_law.nd (pem_call0 k__law_new T.d__law_new hr tk (by rfl))) (pssm_cons (ss 6 sc_law.nd (pem_lstN (pam_nil))) (pssm_cons (psm_for hp rfl (pim_src (mv 2)) (gn 7 sc_law.nd) (pssm_cons (ss 8 sc_law.nd (pem_call k__law_entry T.d__law_entry hr tk (by rfl) (pam_cons (mv 5) (pam_cons (mv 7) (pam_nil))))) (pssm_one (psm_if (ptm_cmp op_notN opNotN_ok (nomark _) (mv 8) (pem_non)) (pssm_one (psm_expr (pem_bm PySem.F.plainAttrs_list PySem.F.slot_list_append PySem.F.type_list_append mt_append fAppend_ok (mv 6) (pam_cons (mv 8) (pam_nil))))) (pssm_nil))))) (pssm_cons (ss 9 sc_law.nd (pem_callTy call_list_of fList_ok (by rfl) T.z_list (by decide +kernel) (pam_cons (mv 2) (pam_nil)))) (pssm_cons (ss 10 sc_law.nd (pem_call k_replay T.d_replay hr tk (by rfl) (pam_cons (mv 9) (pam_nil)))) (pssm_cons (psm_if (ptm_w (pwm_or (ptm_not (ptm_val (pem_callB call_isi fIsi_ok (by rfl) T.z_isinstance (by decide +kernel) (pam_cons (mv 10) (pam_cons (mty "list" T.z_list (by decide +kernel)) (pam_nil)))))) (pwm_or (ptm_cmp (op_ne2 hr.units) opNe_ok (nomark _) (pem_callB (call_repr_rows hgd (units20 hr)) fRepr_ok (by rfl) T.z_repr (by decide +kernel) (pam_cons (mv 10) (pam_nil))) (pem_callB (call_repr_rows hgd (units20 hr)) fRepr_ok (by rfl) T.z_repr (by decide +kernel) (pam_cons (mv 6) (pam_nil)))) (pwm_or1 (ptm_cmp (op_ne2 hr.units) opNe_ok (nomark _) (mv 9) (mv 2)))))) (pssm_one (psm_ret (pem_bl))) (pssm_nil)) (pssm_cons (psm_expr (pem_bm PySem.F.plainAttrs_list PySem.F.slot_list_append PySem.F.type_list_append mt_append fAppend_ok (mv 10) (pam_cons (pem_non) (pam_nil)))) (pssm_one (psm_ret (pem_cmp (op_eq2 hr.units) opEq_ok (nomark _) (pem_call k_replay T.d_replay hr tk (by rfl) (pam_cons (mv 9) (pam_nil))) (mv 6)))))))))))))))
theorem ok_all (T : Top P w K mg) : FnGM P w K mg base 8 T.a_law T.f_law ["script"] m_law := by
  have h__law_start := ok__law_start (P := P) (w := w) (base := base) T 
  have h__law_new := ok__law_new (P := P) (w := w) (base := base) T 
  have h_Watch___enter__ := ok_Watch___enter__ (P := P) (w := w) (base := base) T 
  have h_Watch___exit__ := ok_Watch___exit__ (P := P) (w := w) (base := base) T 
  have h_Watch___init__ := ok_Watch___init__ (P := P) (w := w) (base := base) T 
  have h_Store___init__ := ok_Store___init__ (P := P) (w := w) (base := base) T 
  have h_Region___init__ := ok_Region___init__ (P := P) (w := w) (base := base) T 
  have h_Store_note := ok_Store_note (P := P) (w := w) (base := base) T 
  have h_Store_begin := ok_Store_begin (P := P) (w := w) (base := base) T (h_Store_note.mono (by decide)) (h_Region___init__.mono (by decide))
  have h__begin := ok__begin (P := P) (w := w) (base := base) T (h_Store_begin.mono (by decide))
  have h_Store_expect_current := ok_Store_expect_current (P := P) (w := w) (base := base) T 
  have h_Store_blank := ok_Store_blank (P := P) (w := w) (base := base) T 
  have h_Store_first_row := ok_Store_first_row (P := P) (w := w) (base := base) T 
  have h_Store_take_pages := ok_Store_take_pages (P := P) (w := w) (base := base) T (h_Store_first_row.mono (by decide))
  have h_Store_take_room := ok_Store_take_room (P := P) (w := w) (base := base) T (h_Store_take_pages.mono (by decide))
  have h_Store_cell := ok_Store_cell (P := P) (w := w) (base := base) T (h_Store_expect_current.mono (by decide)) (h_Store_take_pages.mono (by decide)) (h_Store_take_room.mono (by decide)) (h_Store_blank.mono (by decide)) (h_Store_note.mono (by decide))
  have h__cell := ok__cell (P := P) (w := w) (base := base) T (h_Store_cell.mono (by decide))
  have h_Store_end := ok_Store_end (P := P) (w := w) (base := base) T (h_Store_expect_current.mono (by decide)) (h_Store_blank.mono (by decide)) (h_Store_note.mono (by decide))
  have h__end := ok__end (P := P) (w := w) (base := base) T (h_Store_end.mono (by decide))
  have h_Store___contains__ := ok_Store___contains__ (P := P) (w := w) (base := base) T 
  have h_Store_owner := ok_Store_owner (P := P) (w := w) (base := base) T (h_Store___contains__.mono (by decide))
  have h_Store_read := ok_Store_read (P := P) (w := w) (base := base) T (h_Store_note.mono (by decide)) (h_Store_owner.mono (by decide)) (h_Store___contains__.mono (by decide))
  have h__read := ok__read (P := P) (w := w) (base := base) T (h_Store_read.mono (by decide))
  have h_Store_write := ok_Store_write (P := P) (w := w) (base := base) T (h_Store_owner.mono (by decide)) (h_Store_note.mono (by decide))
  have h__write := ok__write (P := P) (w := w) (base := base) T (h_Store_write.mono (by decide))
  have h__perform := ok__perform (P := P) (w := w) (base := base) T (h__begin.mono (by decide)) (h__cell.mono (by decide)) (h__end.mono (by decide)) (h__read.mono (by decide)) (h__write.mono (by decide))
  have h_replay := ok_replay (P := P) (w := w) (base := base) T (h_Watch___enter__.mono (by decide)) (h_Watch___exit__.mono (by decide)) (h__perform.mono (by decide)) (h_Watch___init__.mono (by decide)) (h_Store___init__.mono (by decide))
  have h__law_draw := ok__law_draw (P := P) (w := w) (base := base) T 
  have h__law_end := ok__law_end (P := P) (w := w) (base := base) T 
  have h__law_pages := ok__law_pages (P := P) (w := w) (base := base) T 
  have h__law_pages_for := ok__law_pages_for (P := P) (w := w) (base := base) T (h__law_pages.mono (by decide))
  have h__law_cell := ok__law_cell (P := P) (w := w) (base := base) T (h__law_pages_for.mono (by decide))
  have h__law_begin := ok__law_begin (P := P) (w := w) (base := base) T 
  have h__law_owner := ok__law_owner (P := P) (w := w) (base := base) T 
  have h__law_entry := ok__law_entry (P := P) (w := w) (base := base) T (h__law_begin.mono (by decide)) (h__law_owner.mono (by decide)) (h__law_end.mono (by decide)) (h__law_cell.mono (by decide))
  have h__law_deed := ok__law_deed (P := P) (w := w) (base := base) T (h__law_draw.mono (by decide))
  have h_law := ok_law (P := P) (w := w) (base := base) T (h__law_start.mono (by decide)) (h__law_draw.mono (by decide)) (h__law_deed.mono (by decide)) (h__law_new.mono (by decide)) (h__law_entry.mono (by decide)) (h_replay.mono (by decide))
  exact h_law
end
section
set_option maxHeartbeats 2000000 in
theorem law_facts {l : PySem.W.OpenLaw} {w : World} {K : PySem.W.Frag} {h : Heap} {mg : Str → Option Value} {fa : Addr} (X : K.In h) (G : h.Ns mainGlobals mg) (hfa : mg "law" = some (.ref fa))
    {a_cls_Watch : Addr} (ac_Watch : PySem.W.nsIn K mainGlobals "Watch" = some (some (.ref a_cls_Watch)))
    (pg_Watch : PySem.W.plainGet K a_cls_Watch Str.empty = true) (hd_Watch : PySem.W.hasDictIn K a_cls_Watch = true) (po_Watch : PySem.W.plainOver K a_cls_Watch = true) (sa_Watch : PySem.W.findIn K (.ref a_cls_Watch) "__setattr__" = some (some (.builtin "object.__setattr__")))
    (no_Watch_is_on : PySem.W.findIn K (.ref a_cls_Watch) "is_on" = some none)
    (no_Watch_log : PySem.W.findIn K (.ref a_cls_Watch) "log" = some none)
    (no_Watch_store : PySem.W.findIn K (.ref a_cls_Watch) "store" = some none)
    (mk_Watch : PySem.W.makesIn K a_cls_Watch = true) (kc_Watch : PySem.W.keepIn K (.ref a_cls_Watch) = true)
    {a_cls_Store : Addr} (ac_Store : PySem.W.nsIn K mainGlobals "Store" = some (some (.ref a_cls_Store)))
    (pg_Store : PySem.W.plainGet K a_cls_Store Str.empty = true) (hd_Store : PySem.W.hasDictIn K a_cls_Store = true) (po_Store : PySem.W.plainOver K a_cls_Store = true) (sa_Store : PySem.W.findIn K (.ref a_cls_Store) "__setattr__" = some (some (.builtin "object.__setattr__")))
    (no_Store_begun : PySem.W.findIn K (.ref a_cls_Store) "begun" = some none)
    (no_Store_free : PySem.W.findIn K (.ref a_cls_Store) "free" = some none)
    (no_Store_owners : PySem.W.findIn K (.ref a_cls_Store) "owners" = some none)
    (no_Store_regions : PySem.W.findIn K (.ref a_cls_Store) "regions" = some none)
    (no_Store_total : PySem.W.findIn K (.ref a_cls_Store) "total" = some none)
    (no_Store_watch : PySem.W.findIn K (.ref a_cls_Store) "watch" = some none)
    (no_Store_words : PySem.W.findIn K (.ref a_cls_Store) "words" = some none)
    (mk_Store : PySem.W.makesIn K a_cls_Store = true) (kc_Store : PySem.W.keepIn K (.ref a_cls_Store) = true)
    {a_cls_Region : Addr} (ac_Region : PySem.W.nsIn K mainGlobals "Region" = some (some (.ref a_cls_Region)))
    (pg_Region : PySem.W.plainGet K a_cls_Region Str.empty = true) (hd_Region : PySem.W.hasDictIn K a_cls_Region = true) (po_Region : PySem.W.plainOver K a_cls_Region = true) (sa_Region : PySem.W.findIn K (.ref a_cls_Region) "__setattr__" = some (some (.builtin "object.__setattr__")))
    (no_Region_behind : PySem.W.findIn K (.ref a_cls_Region) "behind" = some none)
    (no_Region_pages_taken : PySem.W.findIn K (.ref a_cls_Region) "pages_taken" = some none)
    (no_Region_words : PySem.W.findIn K (.ref a_cls_Region) "words" = some none)
    (mk_Region : PySem.W.makesIn K a_cls_Region = true) (kc_Region : PySem.W.keepIn K (.ref a_cls_Region) = true)
    {f0 : Addr} {od0 an0 : Option Addr} {sl0 : Array (Option Value)} {oc0 kV0 dc0 pm0 cd0 ct0 : Value}
    (a0 : PySem.W.nsIn K mainGlobals "_law_start" = some (some (.ref f0))) (l0 : K.lookup f0 = some ⟨oc0, od0, .func (PySem.W.fnOf "_law_start" "_law_start" (defArgs s__law_start) (defBody s__law_start) (defScope s__law_start) .none kV0 dc0 pm0 an0 cd0 ct0), sl0⟩) (c0 : PySem.W.codeIn K cd0 "_law_start" = true) (k0 : PySem.W.keepIn K (.ref f0) = true)
    {f1 : Addr} {od1 an1 : Option Addr} {sl1 : Array (Option Value)} {oc1 kV1 dc1 pm1 cd1 ct1 : Value}
    (a1 : PySem.W.nsIn K mainGlobals "_law_new" = some (some (.ref f1))) (l1 : K.lookup f1 = some ⟨oc1, od1, .func (PySem.W.fnOf "_law_new" "_law_new" (defArgs s__law_new) (defBody s__law_new) (defScope s__law_new) .none kV1 dc1 pm1 an1 cd1 ct1), sl1⟩) (c1 : PySem.W.codeIn K cd1 "_law_new" = true) (k1 : PySem.W.keepIn K (.ref f1) = true)
    {f2 : Addr} {od2 an2 : Option Addr} {sl2 : Array (Option Value)} {oc2 kV2 dc2 pm2 cd2 ct2 : Value}
    (a2 : PySem.W.findIn K (.ref a_cls_Watch) "__enter__" = some (some (.ref f2))) (j2 : PySem.W.isFn K (.ref f2) = true) (l2 : K.lookup f2 = some ⟨oc2, od2, .func (PySem.W.fnOf "__enter__" "Watch.__enter__" (defArgs s_Watch___enter__) (defBody s_Watch___enter__) (defScope s_Watch___enter__) .none kV2 dc2 pm2 an2 cd2 ct2), sl2⟩) (c2 : PySem.W.codeIn K cd2 "Watch.__enter__" = true) (k2 : PySem.W.keepIn K (.ref f2) = true)
    {f3 : Addr} {od3 an3 : Option Addr} {sl3 : Array (Option Value)} {oc3 kV3 dc3 pm3 cd3 ct3 : Value}
    (a3 : PySem.W.findIn K (.ref a_cls_Watch) "__exit__" = some (some (.ref f3))) (j3 : PySem.W.isFn K (.ref f3) = true) (l3 : K.lookup f3 = some ⟨oc3, od3, .func (PySem.W.fnOf "__exit__" "Watch.__exit__" (defArgs s_Watch___exit__) (defBody s_Watch___exit__) (defScope s_Watch___exit__) .none kV3 dc3 pm3 an3 cd3 ct3), sl3⟩) (c3 : PySem.W.codeIn K cd3 "Watch.__exit__" = true) (k3 : PySem.W.keepIn K (.ref f3) = true)
    {f4 : Addr} {od4 an4 : Option Addr} {sl4 : Array (Option Value)} {oc4 kV4 dc4 pm4 cd4 ct4 : Value}
    (a4 : PySem.W.findIn K (.ref a_cls_Watch) "__init__" = some (some (.ref f4))) (j4 : PySem.W.isFn K (.ref f4) = true) (l4 : K.lookup f4 = some ⟨oc4, od4, .func (PySem.W.fnOf "__init__" "Watch.__init__" (defArgs s_Watch___init__) (defBody s_Watch___init__) (defScope s_Watch___init__) .none kV4 dc4 pm4 an4 cd4 ct4), sl4⟩) (c4 : PySem.W.codeIn K cd4 "Watch.__init__" = true) (k4 : PySem.W.keepIn K (.ref f4) = true)
    {f5 : Addr} {od5 an5 : Option Addr} {sl5 : Array (Option Value)} {oc5 kV5 dc5 pm5 cd5 ct5 : Value}
    (a5 : PySem.W.findIn K (.ref a_cls_Store) "__init__" = some (some (.ref f5))) (j5 : PySem.W.isFn K (.ref f5) = true) (l5 : K.lookup f5 = some ⟨oc5, od5, .func (PySem.W.fnOf "__init__" "Store.__init__" (defArgs s_Store___init__) (defBody s_Store___init__) (defScope s_Store___init__) .none kV5 dc5 pm5 an5 cd5 ct5), sl5⟩) (c5 : PySem.W.codeIn K cd5 "Store.__init__" = true) (k5 : PySem.W.keepIn K (.ref f5) = true)
    {f6 : Addr} {od6 an6 : Option Addr} {sl6 : Array (Option Value)} {oc6 kV6 dc6 pm6 cd6 ct6 : Value}
    (a6 : PySem.W.findIn K (.ref a_cls_Region) "__init__" = some (some (.ref f6))) (j6 : PySem.W.isFn K (.ref f6) = true) (l6 : K.lookup f6 = some ⟨oc6, od6, .func (PySem.W.fnOf "__init__" "Region.__init__" (defArgs s_Region___init__) (defBody s_Region___init__) (defScope s_Region___init__) .none kV6 dc6 pm6 an6 cd6 ct6), sl6⟩) (c6 : PySem.W.codeIn K cd6 "Region.__init__" = true) (k6 : PySem.W.keepIn K (.ref f6) = true)
    {f7 : Addr} {od7 an7 : Option Addr} {sl7 : Array (Option Value)} {oc7 kV7 dc7 pm7 cd7 ct7 : Value}
    (a7 : PySem.W.findIn K (.ref a_cls_Store) "note" = some (some (.ref f7))) (j7 : PySem.W.isFn K (.ref f7) = true) (l7 : K.lookup f7 = some ⟨oc7, od7, .func (PySem.W.fnOf "note" "Store.note" (defArgs s_Store_note) (defBody s_Store_note) (defScope s_Store_note) .none kV7 dc7 pm7 an7 cd7 ct7), sl7⟩) (c7 : PySem.W.codeIn K cd7 "Store.note" = true) (k7 : PySem.W.keepIn K (.ref f7) = true)
    {f8 : Addr} {od8 an8 : Option Addr} {sl8 : Array (Option Value)} {oc8 kV8 dc8 pm8 cd8 ct8 : Value}
    (a8 : PySem.W.findIn K (.ref a_cls_Store) "begin" = some (some (.ref f8))) (j8 : PySem.W.isFn K (.ref f8) = true) (l8 : K.lookup f8 = some ⟨oc8, od8, .func (PySem.W.fnOf "begin" "Store.begin" (defArgs s_Store_begin) (defBody s_Store_begin) (defScope s_Store_begin) .none kV8 dc8 pm8 an8 cd8 ct8), sl8⟩) (c8 : PySem.W.codeIn K cd8 "Store.begin" = true) (k8 : PySem.W.keepIn K (.ref f8) = true)
    {f9 : Addr} {od9 an9 : Option Addr} {sl9 : Array (Option Value)} {oc9 kV9 dc9 pm9 cd9 ct9 : Value}
    (a9 : PySem.W.nsIn K mainGlobals "_begin" = some (some (.ref f9))) (l9 : K.lookup f9 = some ⟨oc9, od9, .func (PySem.W.fnOf "_begin" "_begin" (defArgs s__begin) (defBody s__begin) (defScope s__begin) .none kV9 dc9 pm9 an9 cd9 ct9), sl9⟩) (c9 : PySem.W.codeIn K cd9 "_begin" = true) (k9 : PySem.W.keepIn K (.ref f9) = true)
    {f10 : Addr} {od10 an10 : Option Addr} {sl10 : Array (Option Value)} {oc10 kV10 dc10 pm10 cd10 ct10 : Value}
    (a10 : PySem.W.findIn K (.ref a_cls_Store) "expect_current" = some (some (.ref f10))) (j10 : PySem.W.isFn K (.ref f10) = true) (l10 : K.lookup f10 = some ⟨oc10, od10, .func (PySem.W.fnOf "expect_current" "Store.expect_current" (defArgs s_Store_expect_current) (defBody s_Store_expect_current) (defScope s_Store_expect_current) .none kV10 dc10 pm10 an10 cd10 ct10), sl10⟩) (c10 : PySem.W.codeIn K cd10 "Store.expect_current" = true) (k10 : PySem.W.keepIn K (.ref f10) = true)
    {f11 : Addr} {od11 an11 : Option Addr} {sl11 : Array (Option Value)} {oc11 kV11 dc11 pm11 cd11 ct11 : Value}
    (a11 : PySem.W.findIn K (.ref a_cls_Store) "blank" = some (some (.ref f11))) (j11 : PySem.W.isFn K (.ref f11) = true) (l11 : K.lookup f11 = some ⟨oc11, od11, .func (PySem.W.fnOf "blank" "Store.blank" (defArgs s_Store_blank) (defBody s_Store_blank) (defScope s_Store_blank) .none kV11 dc11 pm11 an11 cd11 ct11), sl11⟩) (c11 : PySem.W.codeIn K cd11 "Store.blank" = true) (k11 : PySem.W.keepIn K (.ref f11) = true)
    {f12 : Addr} {od12 an12 : Option Addr} {sl12 : Array (Option Value)} {oc12 kV12 dc12 pm12 cd12 ct12 : Value}
    (a12 : PySem.W.findIn K (.ref a_cls_Store) "first_row" = some (some (.ref f12))) (j12 : PySem.W.isFn K (.ref f12) = true) (l12 : K.lookup f12 = some ⟨oc12, od12, .func (PySem.W.fnOf "first_row" "Store.first_row" (defArgs s_Store_first_row) (defBody s_Store_first_row) (defScope s_Store_first_row) .none kV12 dc12 pm12 an12 cd12 ct12), sl12⟩) (c12 : PySem.W.codeIn K cd12 "Store.first_row" = true) (k12 : PySem.W.keepIn K (.ref f12) = true)
    {f13 : Addr} {od13 an13 : Option Addr} {sl13 : Array (Option Value)} {oc13 kV13 dc13 pm13 cd13 ct13 : Value}
    (a13 : PySem.W.findIn K (.ref a_cls_Store) "take_pages" = some (some (.ref f13))) (j13 : PySem.W.isFn K (.ref f13) = true) (l13 : K.lookup f13 = some ⟨oc13, od13, .func (PySem.W.fnOf "take_pages" "Store.take_pages" (defArgs s_Store_take_pages) (defBody s_Store_take_pages) (defScope s_Store_take_pages) .none kV13 dc13 pm13 an13 cd13 ct13), sl13⟩) (c13 : PySem.W.codeIn K cd13 "Store.take_pages" = true) (k13 : PySem.W.keepIn K (.ref f13) = true)
    {f14 : Addr} {od14 an14 : Option Addr} {sl14 : Array (Option Value)} {oc14 kV14 dc14 pm14 cd14 ct14 : Value}
    (a14 : PySem.W.findIn K (.ref a_cls_Store) "take_room" = some (some (.ref f14))) (j14 : PySem.W.isFn K (.ref f14) = true) (l14 : K.lookup f14 = some ⟨oc14, od14, .func (PySem.W.fnOf "take_room" "Store.take_room" (defArgs s_Store_take_room) (defBody s_Store_take_room) (defScope s_Store_take_room) .none kV14 dc14 pm14 an14 cd14 ct14), sl14⟩) (c14 : PySem.W.codeIn K cd14 "Store.take_room" = true) (k14 : PySem.W.keepIn K (.ref f14) = true)
    {f15 : Addr} {od15 an15 : Option Addr} {sl15 : Array (Option Value)} {oc15 kV15 dc15 pm15 cd15 ct15 : Value}
    (a15 : PySem.W.findIn K (.ref a_cls_Store) "cell" = some (some (.ref f15))) (j15 : PySem.W.isFn K (.ref f15) = true) (l15 : K.lookup f15 = some ⟨oc15, od15, .func (PySem.W.fnOf "cell" "Store.cell" (defArgs s_Store_cell) (defBody s_Store_cell) (defScope s_Store_cell) .none kV15 dc15 pm15 an15 cd15 ct15), sl15⟩) (c15 : PySem.W.codeIn K cd15 "Store.cell" = true) (k15 : PySem.W.keepIn K (.ref f15) = true)
    {f16 : Addr} {od16 an16 : Option Addr} {sl16 : Array (Option Value)} {oc16 kV16 dc16 pm16 cd16 ct16 : Value}
    (a16 : PySem.W.nsIn K mainGlobals "_cell" = some (some (.ref f16))) (l16 : K.lookup f16 = some ⟨oc16, od16, .func (PySem.W.fnOf "_cell" "_cell" (defArgs s__cell) (defBody s__cell) (defScope s__cell) .none kV16 dc16 pm16 an16 cd16 ct16), sl16⟩) (c16 : PySem.W.codeIn K cd16 "_cell" = true) (k16 : PySem.W.keepIn K (.ref f16) = true)
    {f17 : Addr} {od17 an17 : Option Addr} {sl17 : Array (Option Value)} {oc17 kV17 dc17 pm17 cd17 ct17 : Value}
    (a17 : PySem.W.findIn K (.ref a_cls_Store) "end" = some (some (.ref f17))) (j17 : PySem.W.isFn K (.ref f17) = true) (l17 : K.lookup f17 = some ⟨oc17, od17, .func (PySem.W.fnOf "end" "Store.end" (defArgs s_Store_end) (defBody s_Store_end) (defScope s_Store_end) .none kV17 dc17 pm17 an17 cd17 ct17), sl17⟩) (c17 : PySem.W.codeIn K cd17 "Store.end" = true) (k17 : PySem.W.keepIn K (.ref f17) = true)
    {f18 : Addr} {od18 an18 : Option Addr} {sl18 : Array (Option Value)} {oc18 kV18 dc18 pm18 cd18 ct18 : Value}
    (a18 : PySem.W.nsIn K mainGlobals "_end" = some (some (.ref f18))) (l18 : K.lookup f18 = some ⟨oc18, od18, .func (PySem.W.fnOf "_end" "_end" (defArgs s__end) (defBody s__end) (defScope s__end) .none kV18 dc18 pm18 an18 cd18 ct18), sl18⟩) (c18 : PySem.W.codeIn K cd18 "_end" = true) (k18 : PySem.W.keepIn K (.ref f18) = true)
    {f19 : Addr} {od19 an19 : Option Addr} {sl19 : Array (Option Value)} {oc19 kV19 dc19 pm19 cd19 ct19 : Value}
    (a19 : PySem.W.findIn K (.ref a_cls_Store) "__contains__" = some (some (.ref f19))) (j19 : PySem.W.isFn K (.ref f19) = true) (l19 : K.lookup f19 = some ⟨oc19, od19, .func (PySem.W.fnOf "__contains__" "Store.__contains__" (defArgs s_Store___contains__) (defBody s_Store___contains__) (defScope s_Store___contains__) .none kV19 dc19 pm19 an19 cd19 ct19), sl19⟩) (c19 : PySem.W.codeIn K cd19 "Store.__contains__" = true) (k19 : PySem.W.keepIn K (.ref f19) = true)
    {f20 : Addr} {od20 an20 : Option Addr} {sl20 : Array (Option Value)} {oc20 kV20 dc20 pm20 cd20 ct20 : Value}
    (a20 : PySem.W.findIn K (.ref a_cls_Store) "owner" = some (some (.ref f20))) (j20 : PySem.W.isFn K (.ref f20) = true) (l20 : K.lookup f20 = some ⟨oc20, od20, .func (PySem.W.fnOf "owner" "Store.owner" (defArgs s_Store_owner) (defBody s_Store_owner) (defScope s_Store_owner) .none kV20 dc20 pm20 an20 cd20 ct20), sl20⟩) (c20 : PySem.W.codeIn K cd20 "Store.owner" = true) (k20 : PySem.W.keepIn K (.ref f20) = true)
    {f21 : Addr} {od21 an21 : Option Addr} {sl21 : Array (Option Value)} {oc21 kV21 dc21 pm21 cd21 ct21 : Value}
    (a21 : PySem.W.findIn K (.ref a_cls_Store) "read" = some (some (.ref f21))) (j21 : PySem.W.isFn K (.ref f21) = true) (l21 : K.lookup f21 = some ⟨oc21, od21, .func (PySem.W.fnOf "read" "Store.read" (defArgs s_Store_read) (defBody s_Store_read) (defScope s_Store_read) .none kV21 dc21 pm21 an21 cd21 ct21), sl21⟩) (c21 : PySem.W.codeIn K cd21 "Store.read" = true) (k21 : PySem.W.keepIn K (.ref f21) = true)
    {f22 : Addr} {od22 an22 : Option Addr} {sl22 : Array (Option Value)} {oc22 kV22 dc22 pm22 cd22 ct22 : Value}
    (a22 : PySem.W.nsIn K mainGlobals "_read" = some (some (.ref f22))) (l22 : K.lookup f22 = some ⟨oc22, od22, .func (PySem.W.fnOf "_read" "_read" (defArgs s__read) (defBody s__read) (defScope s__read) .none kV22 dc22 pm22 an22 cd22 ct22), sl22⟩) (c22 : PySem.W.codeIn K cd22 "_read" = true) (k22 : PySem.W.keepIn K (.ref f22) = true)
    {f23 : Addr} {od23 an23 : Option Addr} {sl23 : Array (Option Value)} {oc23 kV23 dc23 pm23 cd23 ct23 : Value}
    (a23 : PySem.W.findIn K (.ref a_cls_Store) "write" = some (some (.ref f23))) (j23 : PySem.W.isFn K (.ref f23) = true) (l23 : K.lookup f23 = some ⟨oc23, od23, .func (PySem.W.fnOf "write" "Store.write" (defArgs s_Store_write) (defBody s_Store_write) (defScope s_Store_write) .none kV23 dc23 pm23 an23 cd23 ct23), sl23⟩) (c23 : PySem.W.codeIn K cd23 "Store.write" = true) (k23 : PySem.W.keepIn K (.ref f23) = true)
    {f24 : Addr} {od24 an24 : Option Addr} {sl24 : Array (Option Value)} {oc24 kV24 dc24 pm24 cd24 ct24 : Value}
    (a24 : PySem.W.nsIn K mainGlobals "_write" = some (some (.ref f24))) (l24 : K.lookup f24 = some ⟨oc24, od24, .func (PySem.W.fnOf "_write" "_write" (defArgs s__write) (defBody s__write) (defScope s__write) .none kV24 dc24 pm24 an24 cd24 ct24), sl24⟩) (c24 : PySem.W.codeIn K cd24 "_write" = true) (k24 : PySem.W.keepIn K (.ref f24) = true)
    {f25 : Addr} {od25 an25 : Option Addr} {sl25 : Array (Option Value)} {oc25 kV25 dc25 pm25 cd25 ct25 : Value}
    (a25 : PySem.W.nsIn K mainGlobals "_perform" = some (some (.ref f25))) (l25 : K.lookup f25 = some ⟨oc25, od25, .func (PySem.W.fnOf "_perform" "_perform" (defArgs s__perform) (defBody s__perform) (defScope s__perform) .none kV25 dc25 pm25 an25 cd25 ct25), sl25⟩) (c25 : PySem.W.codeIn K cd25 "_perform" = true) (k25 : PySem.W.keepIn K (.ref f25) = true)
    {f26 : Addr} {od26 an26 : Option Addr} {sl26 : Array (Option Value)} {oc26 kV26 dc26 pm26 cd26 ct26 : Value}
    (a26 : PySem.W.nsIn K mainGlobals "replay" = some (some (.ref f26))) (l26 : K.lookup f26 = some ⟨oc26, od26, .func (PySem.W.fnOf "replay" "replay" (defArgs s_replay) (defBody s_replay) (defScope s_replay) .none kV26 dc26 pm26 an26 cd26 ct26), sl26⟩) (c26 : PySem.W.codeIn K cd26 "replay" = true) (k26 : PySem.W.keepIn K (.ref f26) = true)
    {f27 : Addr} {od27 an27 : Option Addr} {sl27 : Array (Option Value)} {oc27 kV27 dc27 pm27 cd27 ct27 : Value}
    (a27 : PySem.W.nsIn K mainGlobals "_law_draw" = some (some (.ref f27))) (l27 : K.lookup f27 = some ⟨oc27, od27, .func (PySem.W.fnOf "_law_draw" "_law_draw" (defArgs s__law_draw) (defBody s__law_draw) (defScope s__law_draw) .none kV27 dc27 pm27 an27 cd27 ct27), sl27⟩) (c27 : PySem.W.codeIn K cd27 "_law_draw" = true) (k27 : PySem.W.keepIn K (.ref f27) = true)
    {f28 : Addr} {od28 an28 : Option Addr} {sl28 : Array (Option Value)} {oc28 kV28 dc28 pm28 cd28 ct28 : Value}
    (a28 : PySem.W.nsIn K mainGlobals "_law_end" = some (some (.ref f28))) (l28 : K.lookup f28 = some ⟨oc28, od28, .func (PySem.W.fnOf "_law_end" "_law_end" (defArgs s__law_end) (defBody s__law_end) (defScope s__law_end) .none kV28 dc28 pm28 an28 cd28 ct28), sl28⟩) (c28 : PySem.W.codeIn K cd28 "_law_end" = true) (k28 : PySem.W.keepIn K (.ref f28) = true)
    {f29 : Addr} {od29 an29 : Option Addr} {sl29 : Array (Option Value)} {oc29 kV29 dc29 pm29 cd29 ct29 : Value}
    (a29 : PySem.W.nsIn K mainGlobals "_law_pages" = some (some (.ref f29))) (l29 : K.lookup f29 = some ⟨oc29, od29, .func (PySem.W.fnOf "_law_pages" "_law_pages" (defArgs s__law_pages) (defBody s__law_pages) (defScope s__law_pages) .none kV29 dc29 pm29 an29 cd29 ct29), sl29⟩) (c29 : PySem.W.codeIn K cd29 "_law_pages" = true) (k29 : PySem.W.keepIn K (.ref f29) = true)
    {f30 : Addr} {od30 an30 : Option Addr} {sl30 : Array (Option Value)} {oc30 kV30 dc30 pm30 cd30 ct30 : Value}
    (a30 : PySem.W.nsIn K mainGlobals "_law_pages_for" = some (some (.ref f30))) (l30 : K.lookup f30 = some ⟨oc30, od30, .func (PySem.W.fnOf "_law_pages_for" "_law_pages_for" (defArgs s__law_pages_for) (defBody s__law_pages_for) (defScope s__law_pages_for) .none kV30 dc30 pm30 an30 cd30 ct30), sl30⟩) (c30 : PySem.W.codeIn K cd30 "_law_pages_for" = true) (k30 : PySem.W.keepIn K (.ref f30) = true)
    {f31 : Addr} {od31 an31 : Option Addr} {sl31 : Array (Option Value)} {oc31 kV31 dc31 pm31 cd31 ct31 : Value}
    (a31 : PySem.W.nsIn K mainGlobals "_law_cell" = some (some (.ref f31))) (l31 : K.lookup f31 = some ⟨oc31, od31, .func (PySem.W.fnOf "_law_cell" "_law_cell" (defArgs s__law_cell) (defBody s__law_cell) (defScope s__law_cell) .none kV31 dc31 pm31 an31 cd31 ct31), sl31⟩) (c31 : PySem.W.codeIn K cd31 "_law_cell" = true) (k31 : PySem.W.keepIn K (.ref f31) = true)
    {f32 : Addr} {od32 an32 : Option Addr} {sl32 : Array (Option Value)} {oc32 kV32 dc32 pm32 cd32 ct32 : Value}
    (a32 : PySem.W.nsIn K mainGlobals "_law_begin" = some (some (.ref f32))) (l32 : K.lookup f32 = some ⟨oc32, od32, .func (PySem.W.fnOf "_law_begin" "_law_begin" (defArgs s__law_begin) (defBody s__law_begin) (defScope s__law_begin) .none kV32 dc32 pm32 an32 cd32 ct32), sl32⟩) (c32 : PySem.W.codeIn K cd32 "_law_begin" = true) (k32 : PySem.W.keepIn K (.ref f32) = true)
    {f33 : Addr} {od33 an33 : Option Addr} {sl33 : Array (Option Value)} {oc33 kV33 dc33 pm33 cd33 ct33 : Value}
    (a33 : PySem.W.nsIn K mainGlobals "_law_owner" = some (some (.ref f33))) (l33 : K.lookup f33 = some ⟨oc33, od33, .func (PySem.W.fnOf "_law_owner" "_law_owner" (defArgs s__law_owner) (defBody s__law_owner) (defScope s__law_owner) .none kV33 dc33 pm33 an33 cd33 ct33), sl33⟩) (c33 : PySem.W.codeIn K cd33 "_law_owner" = true) (k33 : PySem.W.keepIn K (.ref f33) = true)
    {f34 : Addr} {od34 an34 : Option Addr} {sl34 : Array (Option Value)} {oc34 kV34 dc34 pm34 cd34 ct34 : Value}
    (a34 : PySem.W.nsIn K mainGlobals "_law_entry" = some (some (.ref f34))) (l34 : K.lookup f34 = some ⟨oc34, od34, .func (PySem.W.fnOf "_law_entry" "_law_entry" (defArgs s__law_entry) (defBody s__law_entry) (defScope s__law_entry) .none kV34 dc34 pm34 an34 cd34 ct34), sl34⟩) (c34 : PySem.W.codeIn K cd34 "_law_entry" = true) (k34 : PySem.W.keepIn K (.ref f34) = true)
    {f35 : Addr} {od35 an35 : Option Addr} {sl35 : Array (Option Value)} {oc35 kV35 dc35 pm35 cd35 ct35 : Value}
    (a35 : PySem.W.nsIn K mainGlobals "_law_deed" = some (some (.ref f35))) (l35 : K.lookup f35 = some ⟨oc35, od35, .func (PySem.W.fnOf "_law_deed" "_law_deed" (defArgs s__law_deed) (defBody s__law_deed) (defScope s__law_deed) .none kV35 dc35 pm35 an35 cd35 ct35), sl35⟩) (c35 : PySem.W.codeIn K cd35 "_law_deed" = true) (k35 : PySem.W.keepIn K (.ref f35) = true)
    {f36 : Addr} {od36 an36 : Option Addr} {sl36 : Array (Option Value)} {oc36 kV36 dc36 pm36 cd36 ct36 : Value}
    (a36 : PySem.W.nsIn K mainGlobals "law" = some (some (.ref f36))) (l36 : K.lookup f36 = some ⟨oc36, od36, .func (PySem.W.fnOf "law" "law" (defArgs s_law) (defBody s_law) (defScope s_law) .none kV36 dc36 pm36 an36 cd36 ct36), sl36⟩) (c36 : PySem.W.codeIn K cd36 "law" = true) (k36 : PySem.W.keepIn K (.ref f36) = true)
    {C_xStoreError fI_xStoreError cA_xStoreError cd_xStoreError N_xStoreError : Addr} {o1_xStoreError o2_xStoreError o3_xStoreError kV_xStoreError dc_xStoreError pm_xStoreError ct_xStoreError : Value} {d1_xStoreError d2_xStoreError d3_xStoreError an_xStoreError dd_xStoreError : Option Addr} {s1_xStoreError s2_xStoreError s3_xStoreError : Array (Option Value)} {nm_xStoreError q_xStoreError fl_xStoreError : Str} {bs_xStoreError bm_xStoreError sub_xStoreError : List Value} {sn_xStoreError : List Str} {ab_xStoreError : Bool} {col_xStoreError : Option Bool} {k0_xStoreError k1_xStoreError k2_xStoreError k3_xStoreError k5_xStoreError : Option Value} {vs_xStoreError : Array Value} {tf_xStoreError : Tok}
    (xa_StoreError : PySem.W.nsIn K mainGlobals "StoreError" = some (some (.ref C_xStoreError)))
    (xi_StoreError : PySem.W.findIn K (.ref C_xStoreError) "__init__" = some (some (.ref fI_xStoreError)))
    (xl_StoreError : K.lookup fI_xStoreError = some ⟨o1_xStoreError, d1_xStoreError, .func (PySem.W.fnX "__init__" "StoreError.__init__" (C8.fnArgs sx_StoreError) (C8.fnBody sx_StoreError) (C8.fnScope sx_StoreError) [(Str.ofString "__class__", cA_xStoreError)] .none kV_xStoreError dc_xStoreError pm_xStoreError an_xStoreError (.ref cd_xStoreError) ct_xStoreError), s1_xStoreError⟩)
    (xt_StoreError : PySem.W.typeIn K (.ref fI_xStoreError) = some (.type "function"))
    (xk_StoreError : K.lookup cA_xStoreError = some ⟨o2_xStoreError, d2_xStoreError, .cell (some (.ref C_xStoreError)), s2_xStoreError⟩)
    (xo_StoreError : K.lookup C_xStoreError = some (excClassObj nm_xStoreError q_xStoreError C_xStoreError N_xStoreError bs_xStoreError bm_xStoreError true sn_xStoreError sub_xStoreError ab_xStoreError col_xStoreError dd_xStoreError k0_xStoreError k1_xStoreError k2_xStoreError k3_xStoreError k5_xStoreError "ValueError.__new__"))
    (xv_StoreError : PySem.HandSPX.refsVE bm_xStoreError = true)
    (xs_StoreError : PySem.W.findIn K (.ref C_xStoreError) "__setattr__" = some (some (.builtin "object.__setattr__")))
    (xb_StoreError : PySem.W.subIn K (.ref C_xStoreError) (.type "BaseException") = some true)
    (xy_StoreError : PySem.W.typeIn K (.ref C_xStoreError) = some (.type "type"))
    (xp_StoreError : PySem.W.keepIn K (.ref C_xStoreError) = true)
    (xc_StoreError : PySem.W.codeIn K (.ref cd_xStoreError) "StoreError.__init__" = true)
    (xd_StoreError : K.lookup cd_xStoreError = some ⟨o3_xStoreError, d3_xStoreError, .fields vs_xStoreError, s3_xStoreError⟩)
    (xf_StoreError : vs_xStoreError[2]? = some (.str fl_xStoreError tf_xStoreError))
    (xg_StoreError : ((l.prog.main.file : Str) == fl_xStoreError) = true)
    (xu_StoreError : PySem.W.ks_superIn K C_xStoreError C_xStoreError (Str.ofString "__init__") = some (some (Value.builtin "ValueError.__init__")))
    (xn_StoreError : PySem.W.nsIn K cStatics "thirdparty.any" = some none)
    (xw_StoreError : PySem.W.subIn K (.ref C_xStoreError) (.type "ValueError") = some true)
    (xm_StoreError : PySem.W.mroIn K C_xStoreError (.ref C_xStoreError) = some true)
    (xz_StoreError : (l.prog.main.scope.names.lookup (Str.ofString "super")).isSome = false)
    (xe_StoreError : PySem.W.findIn K (.ref C_xStoreError) "reason" = some none)
    (xq_StoreError : PySem.W.nsIn K mainGlobals "super" = some none)
    {Y_xStoreError : Addr} (ya_StoreError : PySem.W.nsIn K mainGlobals "StoreError" = some (some (.ref Y_xStoreError)))
    (yb_StoreError : PySem.W.findIn K (.ref Y_xStoreError) "__getattribute__" = some (some (.builtin "BaseException.__getattribute__")))
    (yc_StoreError : PySem.W.findIn K (.ref Y_xStoreError) "__getattr__" = some none)
    (yd_StoreError : PySem.W.subIn K (.ref Y_xStoreError) (.type "BaseException") = some true)
    (ye_StoreError : PySem.W.hasDictIn K Y_xStoreError = true)
    (yf_StoreError : PySem.W.findIn K (.ref Y_xStoreError) "reason" = some none)
    (yg_StoreError : PySem.W.findIn K (.ref Y_xStoreError) "__class__" = some (some (.builtin "object.__class__")))
    (yh_StoreError : PySem.W.specialIn K (.builtin "object.__class__") "__get__" = some (some (.builtin "getset_descriptor.__get__")))
    (yi_StoreError : PySem.W.takesIn K (.builtin "object.__class__") = some true)
    (yj_StoreError : PySem.W.mroIn K Y_xStoreError (.type "object") = some true)
    (yk_StoreError : PySem.W.typeIn K (.ref Y_xStoreError) = some (.type "type"))
    (yl_StoreError : PySem.W.subIn K (.ref Y_xStoreError) (.ref Y_xStoreError) = some true)
    (z_int : PySem.W.nsIn K mainGlobals "int" = some none)
    (z_list : PySem.W.nsIn K mainGlobals "list" = some none)
    (z_len : PySem.W.nsIn K mainGlobals "len" = some none)
    (z_enumerate : PySem.W.nsIn K mainGlobals "enumerate" = some none)
    (z_range : PySem.W.nsIn K mainGlobals "range" = some none)
    (z_abs : PySem.W.nsIn K mainGlobals "abs" = some none)
    (z_isinstance : PySem.W.nsIn K mainGlobals "isinstance" = some none)
    (z_repr : PySem.W.nsIn K mainGlobals "repr" = some none)
    {t_NOBODY : Tok} (g_NOBODY : PySem.W.nsIn K mainGlobals "NOBODY" = some (some (.int (-1) t_NOBODY)))
    {t_PAGE_WORDS : Tok} (g_PAGE_WORDS : PySem.W.nsIn K mainGlobals "PAGE_WORDS" = some (some (.int 8 t_PAGE_WORDS)))
    {p_DEEDS : Addr} {es_DEEDS : Array DictEntry} {n_DEEDS : Nat} (g_DEEDS : PySem.W.nsIn K mainGlobals "DEEDS" = some (some (.ref p_DEEDS))) (l_DEEDS : K.lookup p_DEEDS = some ⟨.type "dict", none, .dict es_DEEDS n_DEEDS, #[]⟩) (y_DEEDS : PySem.W.KeysLit w.params es_DEEDS.toList) (o_DEEDS : (p_DEEDS == sysModules) = false) (r_DEEDS : kDic K kv_DEEDS es_DEEDS.toList = true)
    : ∃ fd : FuncData, (∀ (s : Shared) (v : Value), BindsTo s fd ⟨[v], []⟩ [("script", v)]) ∧ ∀ base : Heap, K.In base → base.Ns mainGlobals mg → FnG l.prog w K mg base 8 fa fd ["script"] (spOf K m_law) := by
  have e := hfa.symm.trans (PySem.W.mg_of X G a36)
  cases e
  have F0 := fun_mk (st := s__law_start) l0 c0 k0
  have b0 := F0.binds (ps := ["script"]) fun _ _ _ _ _ _ us hl => match us, hl with | [_], _ => rfl
  have F1 := fun_mk (st := s__law_new) l1 c1 k1
  have b1 := F1.binds (ps := []) fun _ _ _ _ _ _ us hl => match us, hl with | [], _ => rfl
  have F2 := fun_mk (st := s_Watch___enter__) l2 c2 k2
  have b2 := F2.binds (ps := ["self"]) fun _ _ _ _ _ _ us hl => match us, hl with | [_], _ => rfl
  have F3 := fun_mk (st := s_Watch___exit__) l3 c3 k3
  have b3 := F3.binds (ps := ["self", "kind", "value", "trace"]) fun _ _ _ _ _ _ us hl => match us, hl with | [_, _, _, _], _ => rfl
  have F4 := fun_mk (st := s_Watch___init__) l4 c4 k4
  have b4 := F4.binds (ps := ["self", "store"]) fun _ _ _ _ _ _ us hl => match us, hl with | [_, _], _ => rfl
  have F5 := fun_mk (st := s_Store___init__) l5 c5 k5
  have b5 := F5.binds (ps := ["self"]) fun _ _ _ _ _ _ us hl => match us, hl with | [_], _ => rfl
  have F6 := fun_mk (st := s_Region___init__) l6 c6 k6
  have b6 := F6.binds (ps := ["self"]) fun _ _ _ _ _ _ us hl => match us, hl with | [_], _ => rfl
  have F7 := fun_mk (st := s_Store_note) l7 c7 k7
  have b7 := F7.binds (ps := ["self", "what", "region", "address"]) fun _ _ _ _ _ _ us hl => match us, hl with | [_, _, _, _], _ => rfl
  have F8 := fun_mk (st := s_Store_begin) l8 c8 k8
  have b8 := F8.binds (ps := ["self"]) fun _ _ _ _ _ _ us hl => match us, hl with | [_], _ => rfl
  have F9 := fun_mk (st := s__begin) l9 c9 k9
  have b9 := F9.binds (ps := ["store", "numbers"]) fun _ _ _ _ _ _ us hl => match us, hl with | [_, _], _ => rfl
  have F10 := fun_mk (st := s_Store_expect_current) l10 c10 k10
  have b10 := F10.binds (ps := ["self", "region"]) fun _ _ _ _ _ _ us hl => match us, hl with | [_, _], _ => rfl
  have F11 := fun_mk (st := s_Store_blank) l11 c11 k11
  have b11 := F11.binds (ps := ["self", "address", "many"]) fun _ _ _ _ _ _ us hl => match us, hl with | [_, _, _], _ => rfl
  have F12 := fun_mk (st := s_Store_first_row) l12 c12 k12
  have b12 := F12.binds (ps := ["self", "many"]) fun _ _ _ _ _ _ us hl => match us, hl with | [_, _], _ => rfl
  have F13 := fun_mk (st := s_Store_take_pages) l13 c13 k13
  have b13 := F13.binds (ps := ["self", "region", "many"]) fun _ _ _ _ _ _ us hl => match us, hl with | [_, _, _], _ => rfl
  have F14 := fun_mk (st := s_Store_take_room) l14 c14 k14
  have b14 := F14.binds (ps := ["self", "region", "words"]) fun _ _ _ _ _ _ us hl => match us, hl with | [_, _, _], _ => rfl
  have F15 := fun_mk (st := s_Store_cell) l15 c15 k15
  have b15 := F15.binds (ps := ["self", "region", "words"]) fun _ _ _ _ _ _ us hl => match us, hl with | [_, _, _], _ => rfl
  have F16 := fun_mk (st := s__cell) l16 c16 k16
  have b16 := F16.binds (ps := ["store", "numbers"]) fun _ _ _ _ _ _ us hl => match us, hl with | [_, _], _ => rfl
  have F17 := fun_mk (st := s_Store_end) l17 c17 k17
  have b17 := F17.binds (ps := ["self", "region"]) fun _ _ _ _ _ _ us hl => match us, hl with | [_, _], _ => rfl
  have F18 := fun_mk (st := s__end) l18 c18 k18
  have b18 := F18.binds (ps := ["store", "numbers"]) fun _ _ _ _ _ _ us hl => match us, hl with | [_, _], _ => rfl
  have F19 := fun_mk (st := s_Store___contains__) l19 c19 k19
  have b19 := F19.binds (ps := ["self", "address"]) fun _ _ _ _ _ _ us hl => match us, hl with | [_, _], _ => rfl
  have F20 := fun_mk (st := s_Store_owner) l20 c20 k20
  have b20 := F20.binds (ps := ["self", "address"]) fun _ _ _ _ _ _ us hl => match us, hl with | [_, _], _ => rfl
  have F21 := fun_mk (st := s_Store_read) l21 c21 k21
  have b21 := F21.binds (ps := ["self", "address"]) fun _ _ _ _ _ _ us hl => match us, hl with | [_, _], _ => rfl
  have F22 := fun_mk (st := s__read) l22 c22 k22
  have b22 := F22.binds (ps := ["store", "numbers"]) fun _ _ _ _ _ _ us hl => match us, hl with | [_, _], _ => rfl
  have F23 := fun_mk (st := s_Store_write) l23 c23 k23
  have b23 := F23.binds (ps := ["self", "address", "word"]) fun _ _ _ _ _ _ us hl => match us, hl with | [_, _, _], _ => rfl
  have F24 := fun_mk (st := s__write) l24 c24 k24
  have b24 := F24.binds (ps := ["store", "numbers"]) fun _ _ _ _ _ _ us hl => match us, hl with | [_, _], _ => rfl
  have F25 := fun_mk (st := s__perform) l25 c25 k25
  have b25 := F25.binds (ps := ["store", "deed"]) fun _ _ _ _ _ _ us hl => match us, hl with | [_, _], _ => rfl
  have F26 := fun_mk (st := s_replay) l26 c26 k26
  have b26 := F26.binds (ps := ["deeds"]) fun _ _ _ _ _ _ us hl => match us, hl with | [_], _ => rfl
  have F27 := fun_mk (st := s__law_draw) l27 c27 k27
  have b27 := F27.binds (ps := ["state", "many"]) fun _ _ _ _ _ _ us hl => match us, hl with | [_, _], _ => rfl
  have F28 := fun_mk (st := s__law_end) l28 c28 k28
  have b28 := F28.binds (ps := ["model", "region"]) fun _ _ _ _ _ _ us hl => match us, hl with | [_, _], _ => rfl
  have F29 := fun_mk (st := s__law_pages) l29 c29 k29
  have b29 := F29.binds (ps := ["model", "many"]) fun _ _ _ _ _ _ us hl => match us, hl with | [_, _], _ => rfl
  have F30 := fun_mk (st := s__law_pages_for) l30 c30 k30
  have b30 := F30.binds (ps := ["model", "region", "many"]) fun _ _ _ _ _ _ us hl => match us, hl with | [_, _, _], _ => rfl
  have F31 := fun_mk (st := s__law_cell) l31 c31 k31
  have b31 := F31.binds (ps := ["model", "region", "words"]) fun _ _ _ _ _ _ us hl => match us, hl with | [_, _, _], _ => rfl
  have F32 := fun_mk (st := s__law_begin) l32 c32 k32
  have b32 := F32.binds (ps := ["model"]) fun _ _ _ _ _ _ us hl => match us, hl with | [_], _ => rfl
  have F33 := fun_mk (st := s__law_owner) l33 c33 k33
  have b33 := F33.binds (ps := ["model", "address"]) fun _ _ _ _ _ _ us hl => match us, hl with | [_, _], _ => rfl
  have F34 := fun_mk (st := s__law_entry) l34 c34 k34
  have b34 := F34.binds (ps := ["model", "deed"]) fun _ _ _ _ _ _ us hl => match us, hl with | [_, _], _ => rfl
  have F35 := fun_mk (st := s__law_deed) l35 c35 k35
  have b35 := F35.binds (ps := ["state", "many"]) fun _ _ _ _ _ _ us hl => match us, hl with | [_, _], _ => rfl
  have F36 := fun_mk (st := s_law) l36 c36 k36
  have b36 := F36.binds (ps := ["script"]) fun _ _ _ _ _ _ us hl => match us, hl with | [_], _ => rfl
  have T_StoreError : OexC K C_xStoreError := ⟨⟨_, _, _, _, _, _, _, _, _, _, _, _, _, _, _, xo_StoreError, xv_StoreError⟩, xs_StoreError, xb_StoreError, xy_StoreError, xp_StoreError⟩
  have I_StoreError := ME.XInit.mk (P := l.prog) (st := sx_StoreError) (qual := "StoreError.__init__") (fI := fI_xStoreError) T_StoreError ⟨_, _, _, _, _, _, rfl⟩ ⟨_, _, _, xl_StoreError⟩ xc_StoreError ⟨_, _, _, xk_StoreError⟩ ⟨_, _, _, _, _, _, xd_StoreError, xf_StoreError, xg_StoreError⟩ xu_StoreError xn_StoreError xw_StoreError xm_StoreError xz_StoreError
  have X_StoreError : ME.XAt l.prog w K mg "StoreError" ["reason"] := ⟨C_xStoreError, fI_xStoreError, _, ["self", "reason"], T_StoreError, xa_StoreError, PySem.W.mg_of X G xa_StoreError, xi_StoreError, xt_StoreError, ME.bindsX fun us hl => match us, hl with | [_, _], _ => rfl, fun base =>
    ME.init_one I_StoreError (NdefX.nscope_by (by decide +kernel)) (PySem.W.mg_none_of X G xq_StoreError) (by decide +kernel) (by decide +kernel) rfl rfl rfl xe_StoreError (fun X hN hs => ⟨_, L2.pe_joined (.cons L2.pe_str (.cons (L2.pe_fmt (L2.pe_var (i := 1) (by rw [hN]; rfl) (.inl (by rw [hs]; decide +kernel)))) (.nil))), fun σ y ey oy H Q h => ME.msg_parts _ H _ (by intro t ht; simp only [List.mem_cons, List.not_mem_nil, or_false] at ht; rcases ht with rfl | rfl <;> first | exact ME.part_str (by decide) | exact ME.part_fmt ey oy) (by decide) fun y => h _⟩) (fun _ => rfl) (fun _ => rfl) (fun _ => ⟨_, rfl⟩) (by decide) (by decide) (by decide) (by decide)⟩
  let T : Top l.prog w K mg := { a_cls_Watch := a_cls_Watch, cls_Watch := ⟨ac_Watch, ⟨pg_Watch, hd_Watch, po_Watch, sa_Watch⟩, fun x hx => by simp only [List.mem_cons, List.not_mem_nil, or_false] at hx; rcases hx with rfl | rfl | rfl <;> assumption⟩, mg_Watch := PySem.W.mg_of X G ac_Watch, mk_Watch := ⟨mk_Watch, a4, j4, kc_Watch⟩, a_cls_Store := a_cls_Store, cls_Store := ⟨ac_Store, ⟨pg_Store, hd_Store, po_Store, sa_Store⟩, fun x hx => by simp only [List.mem_cons, List.not_mem_nil, or_false] at hx; rcases hx with rfl | rfl | rfl | rfl | rfl | rfl | rfl <;> assumption⟩, mg_Store := PySem.W.mg_of X G ac_Store, mk_Store := ⟨mk_Store, a5, j5, kc_Store⟩, a_cls_Region := a_cls_Region, cls_Region := ⟨ac_Region, ⟨pg_Region, hd_Region, po_Region, sa_Region⟩, fun x hx => by simp only [List.mem_cons, List.not_mem_nil, or_false] at hx; rcases hx with rfl | rfl | rfl <;> assumption⟩, mg_Region := PySem.W.mg_of X G ac_Region, mk_Region := ⟨mk_Region, a6, j6, kc_Region⟩, x_StoreError := X_StoreError, c_y_StoreError := Y_xStoreError, y_StoreError := ⟨ya_StoreError, PySem.W.mg_of X G ya_StoreError, ⟨yb_StoreError, yc_StoreError, yd_StoreError, ye_StoreError⟩, fun f hf => by rw [List.mem_singleton.mp hf]; exact yf_StoreError, ⟨yb_StoreError, yc_StoreError, yd_StoreError, ye_StoreError, yg_StoreError, yh_StoreError, yi_StoreError, yj_StoreError⟩, yk_StoreError, yl_StoreError⟩, a__law_start := f0, f__law_start := _, d__law_start := ⟨F0, PySem.W.mg_of X G a0, b0⟩, a__law_new := f1, f__law_new := _, d__law_new := ⟨F1, PySem.W.mg_of X G a1, b1⟩, a_Watch___enter__ := f2, f_Watch___enter__ := _, d_Watch___enter__ := ⟨F2, ⟨a2, j2, k2⟩, b2⟩, a_Watch___exit__ := f3, f_Watch___exit__ := _, d_Watch___exit__ := ⟨F3, ⟨a3, j3, k3⟩, b3⟩, a_Watch___init__ := f4, f_Watch___init__ := _, d_Watch___init__ := ⟨F4, ⟨a4, j4, k4⟩, b4⟩, a_Store___init__ := f5, f_Store___init__ := _, d_Store___init__ := ⟨F5, ⟨a5, j5, k5⟩, b5⟩, a_Region___init__ := f6, f_Region___init__ := _, d_Region___init__ := ⟨F6, ⟨a6, j6, k6⟩, b6⟩, a_Store_note := f7, f_Store_note := _, d_Store_note := ⟨F7, ⟨a7, j7, k7⟩, b7⟩, a_Store_begin := f8, f_Store_begin := _, d_Store_begin := ⟨F8, ⟨a8, j8, k8⟩, b8⟩, a__begin := f9, f__begin := _, d__begin := ⟨F9, PySem.W.mg_of X G a9, b9⟩, a_Store_expect_current := f10, f_Store_expect_current := _, d_Store_expect_current := ⟨F10, ⟨a10, j10, k10⟩, b10⟩, a_Store_blank := f11, f_Store_blank := _, d_Store_blank := ⟨F11, ⟨a11, j11, k11⟩, b11⟩, a_Store_first_row := f12, f_Store_first_row := _, d_Store_first_row := ⟨F12, ⟨a12, j12, k12⟩, b12⟩, a_Store_take_pages := f13, f_Store_take_pages := _, d_Store_take_pages := ⟨F13, ⟨a13, j13, k13⟩, b13⟩, a_Store_take_room := f14, f_Store_take_room := _, d_Store_take_room := ⟨F14, ⟨a14, j14, k14⟩, b14⟩, a_Store_cell := f15, f_Store_cell := _, d_Store_cell := ⟨F15, ⟨a15, j15, k15⟩, b15⟩, a__cell := f16, f__cell := _, d__cell := ⟨F16, PySem.W.mg_of X G a16, b16⟩, a_Store_end := f17, f_Store_end := _, d_Store_end := ⟨F17, ⟨a17, j17, k17⟩, b17⟩, a__end := f18, f__end := _, d__end := ⟨F18, PySem.W.mg_of X G a18, b18⟩, a_Store___contains__ := f19, f_Store___contains__ := _, d_Store___contains__ := ⟨F19, ⟨a19, j19, k19⟩, b19⟩, a_Store_owner := f20, f_Store_owner := _, d_Store_owner := ⟨F20, ⟨a20, j20, k20⟩, b20⟩, a_Store_read := f21, f_Store_read := _, d_Store_read := ⟨F21, ⟨a21, j21, k21⟩, b21⟩, a__read := f22, f__read := _, d__read := ⟨F22, PySem.W.mg_of X G a22, b22⟩, a_Store_write := f23, f_Store_write := _, d_Store_write := ⟨F23, ⟨a23, j23, k23⟩, b23⟩, a__write := f24, f__write := _, d__write := ⟨F24, PySem.W.mg_of X G a24, b24⟩, a__perform := f25, f__perform := _, d__perform := ⟨F25, PySem.W.mg_of X G a25, b25⟩, a_replay := f26, f_replay := _, d_replay := ⟨F26, PySem.W.mg_of X G a26, b26⟩, a__law_draw := f27, f__law_draw := _, d__law_draw := ⟨F27, PySem.W.mg_of X G a27, b27⟩, a__law_end := f28, f__law_end := _, d__law_end := ⟨F28, PySem.W.mg_of X G a28, b28⟩, a__law_pages := f29, f__law_pages := _, d__law_pages := ⟨F29, PySem.W.mg_of X G a29, b29⟩, a__law_pages_for := f30, f__law_pages_for := _, d__law_pages_for := ⟨F30, PySem.W.mg_of X G a30, b30⟩, a__law_cell := f31, f__law_cell := _, d__law_cell := ⟨F31, PySem.W.mg_of X G a31, b31⟩, a__law_begin := f32, f__law_begin := _, d__law_begin := ⟨F32, PySem.W.mg_of X G a32, b32⟩, a__law_owner := f33, f__law_owner := _, d__law_owner := ⟨F33, PySem.W.mg_of X G a33, b33⟩, a__law_entry := f34, f__law_entry := _, d__law_entry := ⟨F34, PySem.W.mg_of X G a34, b34⟩, a__law_deed := f35, f__law_deed := _, d__law_deed := ⟨F35, PySem.W.mg_of X G a35, b35⟩, a_law := fa, f_law := _, d_law := ⟨F36, PySem.W.mg_of X G a36, b36⟩, z_int := PySem.W.mg_none_of X G z_int, z_list := PySem.W.mg_none_of X G z_list, z_len := PySem.W.mg_none_of X G z_len, z_enumerate := PySem.W.mg_none_of X G z_enumerate, z_range := PySem.W.mg_none_of X G z_range, z_abs := PySem.W.mg_none_of X G z_abs, z_isinstance := PySem.W.mg_none_of X G z_isinstance, z_repr := PySem.W.mg_none_of X G z_repr, n__begin := a9, n__cell := a16, n__end := a18, n__read := a22, n__write := a24, c_NOBODY := ⟨_, (.int (-1)), PySem.W.mg_of X G g_NOBODY, ⟨_, rfl⟩, fun _ _ => rep_int⟩, c_PAGE_WORDS := ⟨_, (.int 8), PySem.W.mg_of X G g_PAGE_WORDS, ⟨_, rfl⟩, fun _ _ => rep_int⟩, k_DEEDS := ⟨p_DEEDS, es_DEEDS, n_DEEDS, PySem.W.mg_of X G g_DEEDS, ⟨l_DEEDS, y_DEEDS, o_DEEDS⟩, r_DEEDS⟩ }
  exact ⟨T.f_law, fun s v => .of_eq rfl, fun base _ _ => ok_all T⟩
end
end K51
namespace K51
open PySem PySem.Spec PyProof.Rows L2 MM
def V (h : MH) (cs : List (Nat × MO)) : Prop := ∀ p ∈ cs, h[p.1]? = some p.2
def Dj (cs : List (Nat × MO)) : Prop := (cs.map (·.1)).Nodup
section
variable {h h' g : MH} {cs l1 l2 : List (Nat × MO)} {i n : Nat} {o o0 : MO}
theorem V.at' (v : V h cs) (e : (i, o) ∈ cs) : h[i]? = some o := v _ e
theorem V.app (v : V h cs) (g : MH) : V (h ++ g) cs := fun p hp => by
  have e := v p hp
  rw [List.getElem?_append_left (List.getElem?_eq_some_iff.mp e).1]; exact e
theorem V.lt (v : V h cs) (e : (i, o) ∈ cs) : i < h.length := (List.getElem?_eq_some_iff.mp (v _ e)).1
theorem V.set (v : V h (l1 ++ (i, o0) :: l2)) (d : Dj (l1 ++ (i, o0) :: l2)) (o : MO) : V (h.set i o) (l1 ++ (i, o) :: l2) := fun p hp => by
  have li := v.lt (i := i) (o := o0) (by simp)
  unfold Dj at d
  rw [List.map_append, List.map_cons, List.nodup_append, List.nodup_cons] at d
  obtain ⟨d1, ⟨d2, d3⟩, d4⟩ := d
  rcases List.mem_append.mp hp with q | q
  · have : i ≠ p.1 := fun z => d4 p.1 (List.mem_map_of_mem (f := (·.1)) q) i (by simp) z.symm
    rw [List.getElem?_set_ne this]
    exact v p (by simp [q])
  · rcases List.mem_cons.mp q with rfl | q
    · exact List.getElem?_set_self li
    · have : i ≠ p.1 := fun z => d2 (z ▸ List.mem_map_of_mem (f := (·.1)) q)
      rw [List.getElem?_set_ne this]
      exact v p (by simp [q])
theorem Dj.set (d : Dj (l1 ++ (i, o0) :: l2)) (o : MO) : Dj (l1 ++ (i, o) :: l2) := by
  unfold Dj at d ⊢
  simpa using d
def Ev (cs : List (Nat × MO)) (h h' : MH) : Prop := h.length ≤ h'.length ∧ ∀ i : Nat, i < h.length → i ∉ cs.map (·.1) → h'[i]? = h[i]?
theorem Ev.refl (cs : List (Nat × MO)) (h : MH) : Ev cs h h := ⟨Nat.le_refl _, fun _ _ _ => rfl⟩
theorem Ev.app (e : Ev cs h h') (g : MH) : Ev cs h (h' ++ g) := ⟨by rw [List.length_append]; have := e.1; omega, fun i hi hn => by
  rw [List.getElem?_append_left (by have := e.1; omega)]; exact e.2 i hi hn⟩
theorem Ev.set (e : Ev cs h h') (m : (i, o0) ∈ cs) (o : MO) : Ev cs h (h'.set i o) := ⟨by rw [List.length_set]; exact e.1, fun j hj hn => by
  have : i ≠ j := fun z => hn (z ▸ List.mem_map_of_mem (f := (·.1)) m)
  rw [List.getElem?_set_ne this]; exact e.2 j hj hn⟩
theorem Ev.trans {h'' : MH} {cs' : List (Nat × MO)} (e : Ev cs h h') (e' : Ev cs' h' h'') (q : ∀ i, i ∈ cs'.map (·.1) → i ∈ cs.map (·.1)) : Ev cs h h'' := ⟨Nat.le_trans e.1 e'.1, fun i hi hn => by
  rw [e'.2 i (Nat.lt_of_lt_of_le hi e.1) (fun z => hn (q i z))]; exact e.2 i hi hn⟩
theorem V.take (v : V h' cs) (e : Ev cs h h') (lo : ∀ p ∈ cs, p.1 < h.length) : V (h'.take h.length) cs := fun p hp => by
  rw [List.getElem?_take_of_lt (lo p hp)]; exact v p hp
theorem Ev.take (e : Ev cs h h') : Ev cs h (h'.take h.length) := ⟨by rw [List.length_take]; have := e.1; omega, fun i hi hn => by
  rw [List.getElem?_take_of_lt hi]; exact e.2 i hi hn⟩
theorem Ev.left (v : V h' cs) (e : Ev cs h h') (lows : ∀ p ∈ cs, p.2.lows h.length = true) : LeftOf h h' := ⟨e.1, fun i o hi ho => by
  by_cases m : i ∈ cs.map (·.1)
  · obtain ⟨p, hp, rfl⟩ := List.mem_map.mp m
    rw [v p hp] at ho
    cases ho
    exact .inr (lows p hp)
  · rw [e.2 i hi m] at ho
    exact .inl ho⟩
theorem fn_next {a N : Nat} {ms : MSt} {ds : List D} {δ : MS} (el : ds.length = a) (r : ms (mStart N ds) h = .ok (.next δ) h') (v : V h' cs) (e : Ev cs h h') (lows : ∀ p ∈ cs, p.2.lows h.length = true) : mFn a N ms ds h = .ok .non (h'.take h.length) := by
  rw [mFn_eq el, r]
  exact leave_eq (e.left v lows) rfl
end
theorem ints_lows (n : Nat) : ∀ l : List Int, lowsL n (l.map D.int) = true
  | [] => rfl
  | _ :: r => by show (true && lowsL n (r.map D.int)) = true; rw [ints_lows n r]; rfl
theorem nats_lows (n : Nat) : ∀ l : List Nat, lowsL n (l.map fun (p : Nat) => D.int (p : Int)) = true
  | [] => rfl
  | _ :: r => by show (true && lowsL n (r.map fun (p : Nat) => D.int (p : Int))) = true; rw [nats_lows n r]; rfl
structure Rg where
  key : Nat
  pos : Nat
  pp : Nat
  words : Int
  pages : List Nat
  behind : Nat
structure Sto where
  a : Nat
  b : Nat
  c : Nat
  W : List Int
  O : List Int
  rs : List Rg
  bg : Nat
  tot : Int
  fr : Int
  u : Nat
  lg : Nat
  log : List (Str × Int × Int)
def evD (e : Str × Int × Int) : D := .tup [.str e.1, .int e.2.1, .int e.2.2]
def rgO (r : Rg) : MO := .ins "Region" [("words", .int r.words), ("pages_taken", .ref r.pp), ("behind", .int r.behind)]
def rgL (r : Rg) : MO := .lst (r.pages.map fun (p : Nat) => D.int (p : Int))
def rgC (r : Rg) : List (Nat × MO) := [(r.pos, rgO r), (r.pp, rgL r)]
def stO (s : Sto) : MO := .ins "Store" [("words", .ref s.a), ("owners", .ref s.b), ("regions", .ref s.c), ("begun", .int s.bg), ("total", .int s.tot), ("free", .int s.fr), ("watch", .ref s.u)]
def wO (n : Nat) (s : Sto) : MO := .ins "Watch" [("store", .ref n), ("log", .ref s.lg), ("is_on", .bl true)]
def stK (s : Sto) : List (Key × D) := s.rs.map fun r => ((.inl (r.key : Int) : Key), D.ref r.pos)
def cells (n : Nat) (s : Sto) : List (Nat × MO) := (n, stO s) :: (s.a, .lst (s.W.map .int)) :: (s.b, .lst (s.O.map .int)) :: (s.c, .dic (stK s)) :: (s.u, wO n s) :: (s.lg, .lst (s.log.map evD)) :: s.rs.flatMap rgC
structure SOk (n : Nat) (s : Sto) : Prop where
  dj : Dj (cells n s)
  ks : (s.rs.map (·.key)).Nodup
  w8 : s.W.length = 8 * s.O.length
  sm : s.O.length ≤ 100000
section
variable {h h' : MH} {n : Nat} {s : Sto}
theorem cn : (n, stO s) ∈ cells n s := by simp [cells]
theorem ca : (s.a, MO.lst (s.W.map .int)) ∈ cells n s := by simp [cells]
theorem cb : (s.b, MO.lst (s.O.map .int)) ∈ cells n s := by simp [cells]
theorem cc : (s.c, MO.dic (stK s)) ∈ cells n s := by simp [cells]
theorem cu : (s.u, wO n s) ∈ cells n s := by simp [cells]
theorem cl : (s.lg, MO.lst (s.log.map evD)) ∈ cells n s := by simp [cells]
theorem cr {r : Rg} (hr : r ∈ s.rs) : (r.pos, rgO r) ∈ cells n s := by
  simp only [cells, List.mem_cons, List.mem_flatMap]
  exact .inr (.inr (.inr (.inr (.inr (.inr ⟨r, hr, by simp [rgC]⟩)))))
theorem cp {r : Rg} (hr : r ∈ s.rs) : (r.pp, rgL r) ∈ cells n s := by
  simp only [cells, List.mem_cons, List.mem_flatMap]
  exact .inr (.inr (.inr (.inr (.inr (.inr ⟨r, hr, by simp [rgC]⟩)))))
theorem evs_lows (n : Nat) : ∀ l : List (Str × Int × Int), lowsL n (l.map evD) = true
  | [] => rfl
  | _ :: r => by show (true && lowsL n (r.map evD)) = true; rw [evs_lows n r]; rfl
theorem lows_of (v : V h (cells n s)) : ∀ p ∈ cells n s, p.2.lows h.length = true := by
  intro p hp
  simp only [cells, List.mem_cons, List.mem_flatMap] at hp
  have la := v.lt (ca (n := n) (s := s))
  have lb := v.lt (cb (n := n) (s := s))
  have lc := v.lt (cc (n := n) (s := s))
  have ln := v.lt (cn (n := n) (s := s))
  have lu := v.lt (cu (n := n) (s := s))
  have ll := v.lt (cl (n := n) (s := s))
  rcases hp with rfl | rfl | rfl | rfl | rfl | rfl | ⟨r, hr, q⟩
  · simp [stO, MO.lows, D.lows, la, lb, lc, lu]
  · exact ints_lows _ _
  · exact ints_lows _ _
  · show (stK s).all (fun p => p.2.lows h.length) = true
    unfold stK
    rw [List.all_map, List.all_eq_true]
    intro r hr
    exact decide_eq_true (v.lt (cr (n := n) hr))
  · simp [wO, MO.lows, D.lows, ln, ll]
  · exact evs_lows _ _
  · have lp := v.lt (cp (n := n) hr)
    simp only [rgC, List.mem_cons, List.not_mem_nil, or_false] at q
    rcases q with rfl | rfl
    · simp [rgO, MO.lows, D.lows, lp]
    · exact nats_lows _ _
theorem low_of (v : V h (cells n s)) : ∀ p ∈ cells n s, p.1 < h.length := fun p hp => v.lt (i := p.1) (o := p.2) hp
section
variable (v : V h (cells n s))
include v
theorem f_words : fldG ["Region", "Store"] "words" (.ref n) h = .ok (.ref s.a) h := fldG_ok (v.at' cn) (by decide) rfl
theorem f_owners : fldG ["Store"] "owners" (.ref n) h = .ok (.ref s.b) h := fldG_ok (v.at' cn) (by decide) rfl
theorem f_regions : fldG ["Store"] "regions" (.ref n) h = .ok (.ref s.c) h := fldG_ok (v.at' cn) (by decide) rfl
theorem f_begun : fldG ["Store"] "begun" (.ref n) h = .ok (.int s.bg) h := fldG_ok (v.at' cn) (by decide) rfl
theorem f_free : fldG ["Store"] "free" (.ref n) h = .ok (.int s.fr) h := fldG_ok (v.at' cn) (by decide) rfl
theorem f_watch : fldG ["Store"] "watch" (.ref n) h = .ok (.ref s.u) h := fldG_ok (v.at' cn) (by decide) rfl
theorem l_words : lst? h s.a = some (s.W.map .int) := lst?_of (v.at' ca)
theorem l_owners : lst? h s.b = some (s.O.map .int) := lst?_of (v.at' cb)
theorem d_regions : dic? h s.c = some (stK s) := by unfold dic?; rw [v.at' cc]
theorem n_words : fLen [.ref s.a] h = .ok (.int s.W.length) h := by rw [fLen_ref (l_words v)]; simp
theorem n_owners : fLen [.ref s.b] h = .ok (.int s.O.length) h := by rw [fLen_ref (l_owners v)]; simp
theorem r_pages {r : Rg} (hr : r ∈ s.rs) : fldG ["Region"] "pages_taken" (.ref r.pos) h = .ok (.ref r.pp) h := fldG_ok (v.at' (cr hr)) (by decide) rfl
theorem r_behind {r : Rg} (hr : r ∈ s.rs) : fldG ["Region"] "behind" (.ref r.pos) h = .ok (.int r.behind) h := fldG_ok (v.at' (cr hr)) (by decide) rfl
theorem rl_pages {r : Rg} (hr : r ∈ s.rs) : lst? h r.pp = some (r.pages.map fun (p : Nat) => D.int (p : Int)) := lst?_of (v.at' (cp hr))
theorem isI_ok' {m : Str} (hm : m ∉ (["words", "owners", "regions", "begun", "total", "free", "watch"] : List Str)) : isI "Store" m (.ref n) h = true := isI_ok (v.at' cn) (by
  simp only [List.mem_cons, List.not_mem_nil, or_false, not_or] at hm
  obtain ⟨h1, h2, h3, h4, h5, h6, h7⟩ := hm
  simp only [List.lookup, beq_eq_false_iff_ne.mpr h1, beq_eq_false_iff_ne.mpr h2, beq_eq_false_iff_ne.mpr h3, beq_eq_false_iff_ne.mpr h4, beq_eq_false_iff_ne.mpr h5, beq_eq_false_iff_ne.mpr h6, beq_eq_false_iff_ne.mpr h7])
theorem f_on : fldG ["Watch"] "is_on" (.ref s.u) h = .ok (.bl true) h := fldG_ok (v.at' cu) (by decide) rfl
theorem f_log : fldG ["Watch"] "log" (.ref s.u) h = .ok (.ref s.lg) h := fldG_ok (v.at' cu) (by decide) rfl
theorem l_log : lst? h s.lg = some (s.log.map evD) := lst?_of (v.at' cl)
theorem contains_ok {i : Int} : m_Store___contains__ [.ref n, .int i] h = .ok (.bl (decide (0 ≤ i ∧ i < s.W.length))) h := by
  refine mFn_pure0 rfl ?_ rfl
  show b_Store___contains__ [some (.ref n), some (.int i)] h = _
  unfold b_Store___contains__
  by_cases z : 0 ≤ i
  · simp [f_words v, n_words v, z]
  · simp [f_words v, n_words v, z]
theorem in_ok {i : Int} : opInOwn false "Store" m_Store___contains__ (.int i) (.ref n) h = .ok (.bl (decide (0 ≤ i ∧ i < s.W.length))) h := by
  unfold opInOwn
  simp only [insO_ref (show h[n]? = some (.ins "Store" _) from v.at' cn), if_true, contains_ok v, nx_ok, R.bnd_ok]
  simp
def ownerP (s : Sto) (i : Int) : Int := if 0 ≤ i ∧ i < s.W.length then s.O.getD (i / 8).toNat (-1) else -1
theorem owner_ok (k : SOk n s) {i : Int} : m_Store_owner [.ref n, .int i] h = .ok (.int (ownerP s i)) h := by
  refine mFn_pure0 rfl ?_ rfl
  show b_Store_owner [some (.ref n), some (.int i)] h = _
  unfold b_Store_owner
  have d8 : opDiv (.int i) c_PAGE_WORDS h = .ok (.int (i / 8)) h := opDiv_int (by decide) (by decide)
  by_cases z : 0 ≤ i ∧ i < s.W.length
  · have w8 := k.w8
    have lt : (i / 8).toNat < s.O.length := by omega
    have ix : opIx (.ref s.b) (.int (i / 8)) h = .ok (.int (s.O.getD (i / 8).toNat (-1))) h := opIx_of (by
      rw [ixG_ref, l_owners v, Option.bind_some]
      exact atI_ok (by omega) (by rw [List.getElem?_map, List.getD_eq_getElem?_getD, List.getElem?_eq_getElem lt]; rfl))
    simp [in_ok v, z, f_owners v, d8, ix, ownerP]
  · simp [in_ok v, z, ownerP, c_NOBODY]
end
end
end K51
namespace K51
open PySem PySem.Spec PyProof.Rows L2 MM
section
variable {h h' : MH} {n : Nat} {s : Sto}
theorem mFldAug_ok {cs : List Str} {f C : Str} {g : D → D → MH → R D} {mo m : ME} {δ : MS} {h h1 h2 h3 : MH} {k : Nat} {fs fs' : List (Str × D)} {x y z : D} (eo : mo δ h = .ok (.ref k) h1) (e1 : h1[k]? = some (.ins C fs)) (hc : C ∈ cs) (el : fs.lookup f = some x) (em : m δ h1 = .ok y h2) (eg : g x y h2 = .ok z h3) (e3 : h3[k]? = some (.ins C fs')) (hl : fs'.length < 1000) :
    mFldAug cs f g mo m δ h = .ok (.next δ) (h3.set k (.ins C (putFD f z fs'))) := by
  unfold mFldAug
  rw [eo, R.st_ok]
  simp only [insO_ref e1, if_pos hc, el, em, R.st_ok, eg, insO_ref e3, true_and, if_pos hl]
theorem set_ok {h : MH} {k : Nat} {i : Int} {d : D} {es : List D} (e : lst? h k = some es) (h0 : 0 ≤ i) (h1 : i < es.length) (hz : es.length < 2 ^ 62) : setG2 (.ref k) (.int i) d h = some (h.set k (.lst (es.set i.toNat d))) := by
  obtain ⟨j, rfl⟩ := Int.eq_ofNat_of_zero_le h0
  have e' := lst?_at e
  have ix : ixN es.length (j : Int) = some j := by
    unfold ixN
    rw [if_pos (by omega), if_pos h1, Int.toNat_natCast]
  unfold setG2
  simp only [e']
  show (lst? h k).bind _ = _
  rw [e, Option.bind_some, ix]
  rfl
end
structure To (n : Nat) (h : MH) (s : Sto) (k : MH) (s' : Sto) : Prop where
  v : V k (cells n s')
  ev : Ev (cells n s) h k
  len : k.length = h.length
  ok : SOk n s'
  ft : (cells n s').map (·.1) = (cells n s).map (·.1)
section
variable {h k k' g : MH} {n : Nat} {s s' s'' : Sto} {a N : Nat} {ms : MSt} {ds : List D} {d : D} {δ : MS}
theorem To.refl (v : V h (cells n s)) (o : SOk n s) : To n h s h s := ⟨v, Ev.refl _ _, rfl, o, rfl⟩
theorem To.trans (t : To n h s k s') (t' : To n k s' k' s'') : To n h s k' s'' := ⟨t'.v, t.ev.trans t'.ev fun i hi => t.ft ▸ hi, t'.len.trans t.len, t'.ok, t'.ft.trans t.ft⟩
theorem To.split {K : MH} (v : V h (cells n s)) (t : To n (h ++ g) s K s') : ∃ k, K = k ++ g ∧ To n h s k s' := by
  have hl : K.length = h.length + g.length := by rw [t.len, List.length_append]
  have low : ∀ i ∈ (cells n s).map (·.1), i < h.length := fun i hi => by
    obtain ⟨p, hp, rfl⟩ := List.mem_map.mp hi
    exact low_of v p hp
  refine ⟨K.take h.length, ?_, ⟨fun p hp => ?_, ⟨?_, fun i hi hn => ?_⟩, by rw [List.length_take]; omega, t.ok, t.ft⟩⟩
  · apply List.ext_getElem?
    intro i
    by_cases z : i < h.length
    · rw [List.getElem?_append_left (by rw [List.length_take]; omega), List.getElem?_take_of_lt z]
    · rw [List.getElem?_append_right (by rw [List.length_take]; omega), List.length_take, Nat.min_eq_left (by omega)]
      by_cases z2 : i < K.length
      · rw [t.ev.2 i (by rw [List.length_append]; omega) fun q => z (low i q), List.getElem?_append_right (by omega)]
      · rw [List.getElem?_eq_none (by omega), List.getElem?_eq_none (by omega)]
  · have : p.1 < h.length := low p.1 (t.ft ▸ List.mem_map_of_mem (f := (·.1)) hp)
    rw [List.getElem?_take_of_lt this]; exact t.v p hp
  · rw [List.length_take]; omega
  · rw [List.getElem?_take_of_lt hi, t.ev.2 i (by rw [List.length_append]; omega) hn, List.getElem?_append_left hi]
theorem To.lows (t : To n h s k s') : ∀ p ∈ cells n s', p.2.lows h.length = true := fun p hp => by rw [← t.len]; exact lows_of t.v p hp
theorem To.left (t : To n h s k s') : LeftOf h k := by
  have e : Ev (cells n s') h k := ⟨t.ev.1, fun i hi hn => t.ev.2 i hi (t.ft ▸ hn)⟩
  exact e.left t.v t.lows
theorem To.next (t : To n h s k s') (el : ds.length = a) (r : ms (mStart N ds) h = .ok (.next δ) (k ++ g)) : mFn a N ms ds h = .ok .non k := by
  rw [mFn_eq el, r]
  show leave h .non (k ++ g) = _
  rw [leave_eq t.left.app rfl, take_app t.len]
theorem To.next0 (t : To n h s k s') (el : ds.length = a) (r : ms (mStart N ds) h = .ok (.next δ) k) : mFn a N ms ds h = .ok .non k := t.next (g := []) el (by rw [List.append_nil]; exact r)
theorem To.ret (t : To n h s k s') (el : ds.length = a) (r : ms (mStart N ds) h = .ok (.ret d) (k ++ g)) (q : d.lows h.length = true) : mFn a N ms ds h = .ok d k := mFn_ret el r rfl t.len t.left q
theorem To.ret0 (t : To n h s k s') (el : ds.length = a) (r : ms (mStart N ds) h = .ok (.ret d) k) (q : d.lows h.length = true) : mFn a N ms ds h = .ok d k := t.ret (g := []) el (by rw [List.append_nil]; exact r) q
theorem toW (v : V h (cells n s)) (o : SOk n s) (W : List Int) (hw : W.length = 8 * s.O.length) : To n h s (h.set s.a (.lst (W.map .int))) { s with W := W } :=
  ⟨V.set (l1 := [(n, stO s)]) v o.dj _, (Ev.refl _ _).set ca _, List.length_set .., ⟨Dj.set (l1 := [(n, stO s)]) o.dj _, o.ks, hw, o.sm⟩, rfl⟩
theorem toN (v : V h (cells n s)) (o : SOk n s) (bg : Nat) (tot fr : Int) : To n h s (h.set n (stO { s with bg := bg, tot := tot, fr := fr })) { s with bg := bg, tot := tot, fr := fr } :=
  ⟨V.set (l1 := []) v o.dj _, (Ev.refl _ _).set cn _, List.length_set .., ⟨Dj.set (l1 := []) o.dj _, o.ks, o.w8, o.sm⟩, rfl⟩
theorem toO (v : V h (cells n s)) (o : SOk n s) (O : List Int) (hw : O.length = s.O.length) : To n h s (h.set s.b (.lst (O.map .int))) { s with O := O } :=
  ⟨V.set (l1 := [(n, stO s), (s.a, .lst (s.W.map .int))]) v o.dj _, (Ev.refl _ _).set cb _, List.length_set .., ⟨Dj.set (l1 := [(n, stO s), (s.a, .lst (s.W.map .int))]) o.dj _, o.ks, by rw [o.w8]; show _ = 8 * O.length; rw [hw], by show O.length ≤ _; rw [hw]; exact o.sm⟩, rfl⟩
theorem toL (v : V h (cells n s)) (o : SOk n s) (lg : List (Str × Int × Int)) : To n h s (h.set s.lg (.lst (lg.map evD))) { s with log := lg } :=
  ⟨V.set (l1 := [(n, stO s), (s.a, .lst (s.W.map .int)), (s.b, .lst (s.O.map .int)), (s.c, .dic (stK s)), (s.u, wO n s)]) v o.dj _, (Ev.refl _ _).set cl _, List.length_set ..,
    ⟨Dj.set (l1 := [(n, stO s), (s.a, .lst (s.W.map .int)), (s.b, .lst (s.O.map .int)), (s.c, .dic (stK s)), (s.u, wO n s)]) o.dj _, o.ks, o.w8, o.sm⟩, rfl⟩
def noted (s : Sto) (x : Str) (y z : Int) : Sto := { s with log := s.log ++ [(x, y, z)] }
theorem note_ok (v : V h (cells n s)) (o : SOk n s) (hl : s.log.length ≤ 100000) {x : Str} {y z : Int} : ∃ k, m_Store_note [.ref n, .str x, .int y, .int z] h = .ok .non k ∧ To n h s k (noted s x y z) := by
  have t := toL v o (s.log ++ [(x, y, z)])
  refine ⟨_, t.next0 (δ := [some (.ref n), some (.str x), some (.int y), some (.int z)]) rfl ?_, t⟩
  show b_Store_note [some (.ref n), some (.str x), some (.int y), some (.int z)] h = _
  unfold b_Store_note
  have ty := isTy_ref (T := "list") (l_log v)
  have ap : fAppend (.ref s.lg) [.tup [.str x, .int y, .int z]] h = .ok .non (h.set s.lg (.lst ((s.log ++ [(x, y, z)]).map evD))) := by
    unfold fAppend
    simp only [l_log v]
    rw [if_pos (by simp; omega)]
    simp [evD]
  generalize h.set s.lg (.lst ((s.log ++ [(x, y, z)]).map evD)) = K at ap
  simp [f_watch v, f_on v, f_log v, ty, ap, show MM.isNon (D.ref s.u) = false from rfl]
theorem cells_split {r1 r2 : List Rg} {r : Rg} (e : s.rs = r1 ++ r :: r2) : cells n s = ((n, stO s) :: (s.a, MO.lst (s.W.map .int)) :: (s.b, .lst (s.O.map .int)) :: (s.c, .dic (stK s)) :: (s.u, wO n s) :: (s.lg, .lst (s.log.map evD)) :: r1.flatMap rgC) ++ (r.pos, rgO r) :: (r.pp, rgL r) :: r2.flatMap rgC := by
  unfold cells
  rw [e]
  simp [rgC]
theorem cells_split2 {r1 r2 : List Rg} {r : Rg} (e : s.rs = r1 ++ r :: r2) : cells n s = ((n, stO s) :: (s.a, MO.lst (s.W.map .int)) :: (s.b, .lst (s.O.map .int)) :: (s.c, .dic (stK s)) :: (s.u, wO n s) :: (s.lg, .lst (s.log.map evD)) :: r1.flatMap rgC ++ [(r.pos, rgO r)]) ++ (r.pp, rgL r) :: r2.flatMap rgC := by
  rw [cells_split e]; simp
theorem toR (v : V h (cells n s)) (o : SOk n s) {r1 r2 : List Rg} {r : Rg} (e : s.rs = r1 ++ r :: r2) (w : Int) (b : Nat) : To n h s (h.set r.pos (rgO { r with words := w, behind := b })) { s with rs := r1 ++ { r with words := w, behind := b } :: r2 } := by
  have hk : stK { s with rs := r1 ++ { r with words := w, behind := b } :: r2 } = stK s := by unfold stK; rw [e]; simp
  have e2 := cells_split (n := n) (s := { s with rs := r1 ++ { r with words := w, behind := b } :: r2 }) rfl
  have v1 := v
  have d1 := o.dj
  rw [cells_split e] at v1 d1
  refine ⟨?_, (Ev.refl _ _).set (cr (by rw [e]; simp)) _, List.length_set .., ⟨?_, ?_, o.w8, o.sm⟩, ?_⟩
  · rw [e2, hk]; exact v1.set d1 _
  · rw [e2, hk]; exact d1.set _
  · have := o.ks
    rw [e] at this
    simpa using this
  · rw [e2, cells_split e, hk]
    simp
theorem toP (v : V h (cells n s)) (o : SOk n s) {r1 r2 : List Rg} {r : Rg} (e : s.rs = r1 ++ r :: r2) (ps : List Nat) : To n h s (h.set r.pp (rgL { r with pages := ps })) { s with rs := r1 ++ { r with pages := ps } :: r2 } := by
  have hk : stK { s with rs := r1 ++ { r with pages := ps } :: r2 } = stK s := by unfold stK; rw [e]; simp
  have e2 := cells_split2 (n := n) (s := { s with rs := r1 ++ { r with pages := ps } :: r2 }) rfl
  have v1 := v
  have d1 := o.dj
  rw [cells_split2 e] at v1 d1
  refine ⟨?_, (Ev.refl _ _).set (cp (by rw [e]; simp)) _, List.length_set .., ⟨?_, ?_, o.w8, o.sm⟩, ?_⟩
  · rw [e2, hk]; exact v1.set d1 _
  · rw [e2, hk]; exact d1.set _
  · have := o.ks
    rw [e] at this
    simpa using this
  · rw [e2, cells_split2 e, hk]
    simp
end
end K51
namespace K51
open PySem PySem.Spec PyProof.Rows L2 MM
section
variable {h k g : MH} {n : Nat} {s : Sto}
theorem replicate_flat {α : Type} (x : α) : ∀ m : Nat, (List.replicate m [x]).flatten = List.replicate m x
  | 0 => rfl
  | m + 1 => by rw [List.replicate_succ, List.flatten_cons, replicate_flat x m]; rfl
def blankL (W : List Int) (a m : Nat) : List Int := W.take a ++ List.replicate m 0 ++ W.drop (a + m)
theorem blankL_len {W : List Int} {a m : Nat} (h : a + m ≤ W.length) : (blankL W a m).length = W.length := by
  unfold blankL
  simp
  omega
theorem blank_ok (v : V h (cells n s)) (o : SOk n s) {a m : Nat} (hm : a + m ≤ s.W.length) : ∃ k, m_Store_blank [.ref n, .int a, .int m] h = .ok .non k ∧ To n h s k { s with W := blankL s.W a m } := by
  have w8 := o.w8
  have sm := o.sm
  have t := toW v o (blankL s.W a m) (by rw [blankL_len hm]; exact w8)
  refine ⟨_, t.next (g := [.lst [.int 0], .lst (List.replicate m (.int 0))]) (δ := [some (.ref n), some (.int a), some (.int m)]) rfl ?_, t⟩
  show b_Store_blank [some (.ref n), some (.int a), some (.int m)] h = _
  have r1 : opRep (.ref h.length) (.int m) (h ++ [.lst [.int 0]]) = .ok (.ref (h.length + 1)) (h ++ [.lst [.int 0], .lst (List.replicate m (.int 0))]) := by
    rw [opRep_at lst?_end (by refine ⟨by omega, by omega, ?_⟩; simp; omega)]
    simp [replicate_flat]
  have v2 := v.app [MO.lst [.int 0], .lst (List.replicate m (.int 0))]
  have f1 := f_words v2
  have g1 : cutG (.ref (h.length + 1)) (.ref s.a) (some (a : Int)) (some ((a : Int) + (m : Int))) (h ++ [.lst [.int 0], .lst (List.replicate m (.int 0))]) = some ((h.set s.a (.lst ((blankL s.W a m).map .int))) ++ [.lst [.int 0], .lst (List.replicate m (.int 0))]) := by
    have la := v.lt (ca (n := n))
    have e1 : lst? (h ++ [MO.lst [.int 0], .lst (List.replicate m (.int 0))]) (h.length + 1) = some (List.replicate m (.int 0)) := lst?_of (by simp)
    rw [show (a : Int) + (m : Int) = ((a + m : Nat) : Int) by omega, cutG_at e1 (l_words v2) (by omega) (by omega) (by simp; omega), List.set_append_left _ _ la]
    unfold blankL
    simp
  have pm : ∀ k, mPart (mOp opAddL (mVar 1) (mVar 2)) [some (.ref n), some (.int a), some (.int m)] k = .ok (some ((a : Int) + (m : Int))) k := fun _ => rfl
  unfold b_Store_blank
  simp [mCut, r1, f1, g1, pm]
def WRd (s : Sto) (i : Int) : Int := if 0 ≤ i ∧ i < s.W.length then s.W.getD i.toNat 0 else 0
theorem read_ok (v : V h (cells n s)) (o : SOk n s) (hl : s.log.length ≤ 100000) {i : Int} : ∃ x k, m_Store_read [.ref n, .int i] h = .ok (.int x) k ∧ To n h s k (noted s "read" (ownerP s i) i) := by
  obtain ⟨k, e, t⟩ := note_ok v o hl (x := "read") (y := ownerP s i) (z := i)
  refine ⟨WRd s i, k, t.ret0 rfl ?_ rfl, t⟩
  show b_Store_read [some (.ref n), some (.int i)] h = _
  unfold b_Store_read
  have s1 : mDrop (mMeth "Store" "note" m_Store_note (mVar 0) (mCons (mC (.str "read")) (mCons (mMeth "Store" "owner" m_Store_owner (mVar 0) (mCons (mVar 1) (mNil))) (mCons (mVar 1) (mNil))))) [some (.ref n), some (.int i)] h = .ok (.next [some (.ref n), some (.int i)]) k := by
    simp [isI_ok' v (m := "note") (by decide), isI_ok' v (m := "owner") (by decide), owner_ok v o, e]
  rw [mSeq_eq, s1, SR.seq_next]
  have v2 := t.v
  have ix : ∀ z : 0 ≤ i ∧ i < s.W.length, opIx (.ref s.a) (.int i) k = .ok (.int (s.W.getD i.toNat 0)) k := fun z => opIx_of (by
      have lt : i.toNat < s.W.length := by omega
      have := l_words v2
      rw [ixG_ref, show lst? k s.a = some (s.W.map .int) from this, Option.bind_some]
      exact atI_ok (by omega) (by rw [List.getElem?_map, List.getD_eq_getElem?_getD, List.getElem?_eq_getElem lt]; rfl))
  have fw : fldG ["Region", "Store"] "words" (.ref n) k = .ok (.ref s.a) k := by have := f_words v2; exact this
  have io : opInOwn false "Store" m_Store___contains__ (.int i) (.ref n) k = .ok (.bl (decide (0 ≤ i ∧ i < s.W.length))) k := by have := in_ok (i := i) v2; exact this
  by_cases z : 0 ≤ i ∧ i < s.W.length
  · simp [io, z, fw, ix z, WRd]
  · simp [io, z, WRd]
theorem write_ok (v : V h (cells n s)) (o : SOk n s) (hl : s.log.length ≤ 100000) {i x : Int} : ∃ k, m_Store_write [.ref n, .int i, .int x] h = .ok .non k ∧ To n h s k (noted { s with W := if ownerP s i = -1 then s.W else s.W.set i.toNat x } "write" (ownerP s i) i) := by
  have nt : ∀ {K : MH} {s2 : Sto}, V K (cells n s2) → ∀ k, m_Store_note [.ref n, .str "write", .int (ownerP s i), .int i] K = .ok .non k → mDrop (mMeth "Store" "note" m_Store_note (mVar 0) (mCons (mC (.str "write")) (mCons (mVar 3) (mCons (mVar 1) (mNil))))) [some (.ref n), some (.int i), some (.int x), some (.int (ownerP s i))] K = .ok (.next [some (.ref n), some (.int i), some (.int x), some (.int (ownerP s i))]) k := fun {K s2} v2 k e => by
    simp [isI_ok' v2 (m := "note") (by decide), e]
  have s0 : mSet 3 (mMeth "Store" "owner" m_Store_owner (mVar 0) (mCons (mVar 1) (mNil))) [some (.ref n), some (.int i), some (.int x), none] h = .ok (.next [some (.ref n), some (.int i), some (.int x), some (.int (ownerP s i))]) h := by
    simp [isI_ok' v (m := "owner") (by decide), owner_ok v o]
  by_cases z : ownerP s i = -1
  · obtain ⟨k, e, t⟩ := note_ok v o hl (x := "write") (y := ownerP s i) (z := i)
    have hs : ({ s with W := if ownerP s i = -1 then s.W else s.W.set i.toNat x } : Sto) = s := by rw [if_pos z]
    rw [hs]
    refine ⟨k, t.next0 (δ := [some (.ref n), some (.int i), some (.int x), some (.int (ownerP s i))]) rfl ?_, t⟩
    show b_Store_write [some (.ref n), some (.int i), some (.int x), none] h = _
    unfold b_Store_write
    rw [mSeq_eq, s0, SR.seq_next, mSeq_eq]
    have s1 : mIfS (mB (mOp opNe (mVar 3) (mC c_NOBODY))) (mSetIx2 (mVar 2) (mFld ["Region", "Store"] "words" (mVar 0)) (mVar 1)) (mNext) [some (.ref n), some (.int i), some (.int x), some (.int (ownerP s i))] h = .ok (.next [some (.ref n), some (.int i), some (.int x), some (.int (ownerP s i))]) h := by
      simp [z, c_NOBODY]
    rw [s1, SR.seq_next]
    exact nt v k e
  · have hi : 0 ≤ i ∧ i < s.W.length := by
      unfold ownerP at z
      split at z
      · assumption
      · exact absurd rfl z
    have w8 := o.w8
    have sm := o.sm
    have t := toW v o (s.W.set i.toNat x) (by rw [List.length_set]; exact w8)
    obtain ⟨k, e, t2⟩ := note_ok t.v t.ok hl (x := "write") (y := ownerP s i) (z := i)
    have tt := t.trans t2
    rw [if_neg z]
    refine ⟨k, tt.next0 (δ := [some (.ref n), some (.int i), some (.int x), some (.int (ownerP s i))]) rfl ?_, tt⟩
    show b_Store_write [some (.ref n), some (.int i), some (.int x), none] h = _
    have st := set_ok (d := .int x) (l_words v) hi.1 (by simpa using hi.2) (by simp; omega)
    rw [show (s.W.map D.int).set i.toNat (.int x) = (s.W.set i.toNat x).map .int by rw [List.map_set]] at st
    have v2 := t.v
    unfold b_Store_write
    rw [mSeq_eq, s0, SR.seq_next, mSeq_eq]
    have s1 : mIfS (mB (mOp opNe (mVar 3) (mC c_NOBODY))) (mSetIx2 (mVar 2) (mFld ["Region", "Store"] "words" (mVar 0)) (mVar 1)) (mNext) [some (.ref n), some (.int i), some (.int x), some (.int (ownerP s i))] h = .ok (.next [some (.ref n), some (.int i), some (.int x), some (.int (ownerP s i))]) (h.set s.a (.lst ((s.W.set i.toNat x).map .int))) := by
      simp [z, c_NOBODY, f_words v, mSetIx2, st, -List.map_set]
    rw [s1, SR.seq_next]
    exact nt v2 k e
theorem reg_get {r1 r2 : List Rg} {r : Rg} (o : SOk n s) (e : s.rs = r1 ++ r :: r2) : valD (stK s) (.inl (r.key : Int)) = some (.ref r.pos) := by
  have ks := o.ks
  rw [e, List.map_append, List.map_cons, List.nodup_append, List.nodup_cons] at ks
  obtain ⟨k1, k2, k3⟩ := ks
  unfold valD stK
  rw [e, List.map_append, List.map_cons, List.find?_append]
  have : (r1.map fun r => (((.inl (r.key : Int) : Key), D.ref r.pos))).find? (fun p => decide (p.1 = .inl (r.key : Int))) = none := by
    rw [List.find?_eq_none]
    intro p hp
    obtain ⟨q, hq, rfl⟩ := List.mem_map.mp hp
    have := k3 q.key (List.mem_map_of_mem hq) r.key (by simp)
    simp
    omega
  rw [this, List.find?_cons]
  simp
theorem reg_ix (v : V h (cells n s)) (o : SOk n s) {r1 r2 : List Rg} {r : Rg} (e : s.rs = r1 ++ r :: r2) : opIx (.ref s.c) (.int r.key) h = .ok (.ref r.pos) h := opIx_dic (by
  show (dic? h s.c).bind _ = _
  rw [d_regions v, Option.bind_some]
  show some (valD (stK s) (.inl (r.key : Int))) = _
  rw [reg_get o e])
def isReg (s : Sto) (i : Int) : Bool := s.rs.any fun r => decide ((r.key : Int) = i)
theorem reg_nin (v : V h (cells n s)) {i : Int} : opNin2 (.int i) (.ref s.c) h = .ok (.bl (!isReg s i)) h := by
  have e : inG2 (.int i) (.ref s.c) h = some (isReg s i) := by
    have hd : dicR (.ref s.c) h = some (stK s) := by
      unfold dicR
      simp only [v.at' cc]
    unfold inG2
    rw [hd]
    show some (hasD (stK s) (.inl i)) = _
    congr 1
    unfold hasD valD isReg stK
    rw [Option.isSome_map]
    induction s.rs with
    | nil => rfl
    | cons r rs ih =>
      rw [List.map_cons, List.find?_cons, List.any_cons]
      by_cases z : (r.key : Int) = i
      · simp [z]
      · simp only [Sum.inl.injEq, z, decide_false, Bool.false_or]
        exact ih
  unfold opNin2
  rw [e]
theorem expect_ok (v : V h (cells n s)) {i : Int} (hi : isReg s i = true) : m_Store_expect_current [.ref n, .int i] h = .ok .non h := by
  refine mFn_next0 (δ := [some (.ref n), some (.int i)]) rfl ?_
  show b_Store_expect_current [some (.ref n), some (.int i)] h = _
  unfold b_Store_expect_current
  simp [f_regions v, reg_nin v, hi]
theorem expect_no (v : V h (cells n s)) {i : Int} (hi : isReg s i = false) : m_Store_expect_current [.ref n, .int i] h = .exc "StoreError" [("reason", .str "region")] h := by
  refine mFn_exc0 (δ := [some (.ref n), some (.int i)]) rfl ?_ rfl
  show b_Store_expect_current [some (.ref n), some (.int i)] h = _
  unfold b_Store_expect_current
  simp [f_regions v, reg_nin v, hi, mRaise, okD, show (Str.ofString "region").length ≤ 100000 from by decide]
theorem reg_mem {r1 r2 : List Rg} {r : Rg} (e : s.rs = r1 ++ r :: r2) : isReg s r.key = true := by
  unfold isReg
  rw [e]
  simp
end
end K51
namespace K51
open PySem PySem.Spec PyProof.Rows L2 MM
section
variable {h k g : MH} {n : Nat} {s : Sto}
def scan (m : Nat) : List Int → Nat → Nat → Option Nat
  | [], _, _ => none
  | o :: r, p, w => if (if o = -1 then w + 1 else 0) = m then some (p + 1 - m) else scan m r (p + 1) (if o = -1 then w + 1 else 0)
theorem scan_cons {m : Nat} {o : Int} {r : List Int} {p w : Nat} : scan m (o :: r) p w = if (if o = -1 then w + 1 else 0) = m then some (p + 1 - m) else scan m r (p + 1) (if o = -1 then w + 1 else 0) := rfl
def firstP (s : Sto) (m : Nat) : Nat := if s.fr < m then s.O.length else (scan m s.O 0 0).getD s.O.length
theorem first_ok (v : V h (cells n s)) (o : SOk n s) {m : Nat} (hm : 1 ≤ m) : m_Store_first_row [.ref n, .int m] h = .ok (.int (firstP s m)) h := by
  refine mFn_pure0 rfl ?_ rfl
  show b_Store_first_row [some (.ref n), some (.int m), none, none, none] h = _
  unfold b_Store_first_row
  by_cases z : s.fr < m
  · simp [f_free v, z, f_owners v, n_owners v, firstP]
  · have lo := l_owners v
    have e3 : fEnum3 [.ref s.b] h = .ok ⟨List.zipWith (fun x y => .tup [x, y]) ((List.range s.O.length).map fun (i : Nat) => .int i) (s.O.map .int), fun h' => lstD (.ref s.b) h' = some (s.O.map .int)⟩ h := by
      show fEnum [.ref s.b] h = _
      unfold fEnum
      simp only [lstD_ref, lo]
      simp
    have lp : TmS (forM (fun h' => lstD (.ref s.b) h' = some (s.O.map .int)) (mgSeq 2 (mgCons (mgName 3) (mgCons (mgName 4) (mgNil)))) b_Store_first_row_1 (List.zipWith (fun x y => .tup [x, y]) ((List.range s.O.length).map fun (i : Nat) => .int i) (s.O.map .int)) [some (.ref n), some (.int m), some (.int 0), none, none] h)
        (fun f h' => h' = h ∧ (match f with | .next δ => scan m s.O 0 0 = none ∧ ∃ a b c, δ = [some (.ref n), some (.int m), a, b, c] | .ret d => ∃ q, scan m s.O 0 0 = some q ∧ d = .int (q : Int) | _ => False)) (fun _ _ _ _ => False) := by
      refine TmS_for (fun ds δ h' => h' = h ∧ ∃ (p w : Nat) (b c : Option D), p ≤ s.O.length ∧ w ≤ p ∧ ds = List.zipWith (fun x y => .tup [x, y]) (((List.range s.O.length).map fun (i : Nat) => D.int i).drop p) ((s.O.map .int).drop p) ∧ scan m s.O 0 0 = scan m (s.O.drop p) p w ∧ δ = [some (.ref n), some (.int m), some (.int w), b, c]) ?_ ?_ ?_ ?_
      · rintro ds δ h' ⟨rfl, _⟩
        exact lo
      · rintro x r δ h' ⟨rfl, p, w, b, c, hp, hw, e, es, rfl⟩
        have lt : p < s.O.length := by
          rcases Nat.lt_or_ge p s.O.length with q | q
          · exact q
          · rw [List.drop_eq_nil_of_le (by simpa using q)] at e
            simp at e
        have d1 : ((List.range s.O.length).map fun (i : Nat) => D.int i).drop p = .int p :: ((List.range s.O.length).map fun (i : Nat) => D.int i).drop (p + 1) := by
          rw [List.drop_eq_getElem_cons (by simpa using lt)]
          simp
        have d2 : (s.O.map D.int).drop p = .int s.O[p] :: (s.O.map D.int).drop (p + 1) := by
          rw [List.drop_eq_getElem_cons (by simpa using lt)]
          simp
        rw [d1, d2, List.zipWith_cons_cons] at e
        obtain ⟨rfl, rfl⟩ := List.cons.inj e
        rw [List.drop_eq_getElem_cons lt] at es
        generalize s.O[p] = oo at *
        refine ⟨[some (.ref n), some (.int m), some (.int w), some (.int p), some (.int oo)], rfl, ?_⟩
        have b1 : mSet 2 (mIf (mB (mOp opEq (mVar 4) (mC c_NOBODY))) (mOp opAddL (mVar 2) (mC (.int 1))) (mC (.int 0))) [some (.ref n), some (.int m), some (.int w), some (.int p), some (.int oo)] h' = .ok (.next [some (.ref n), some (.int m), some (.int ((if oo = -1 then w + 1 else 0 : Nat) : Int)), some (.int p), some (.int oo)]) h' := by
          by_cases z1 : oo = -1
          · simp [c_NOBODY, z1]
          · simp [c_NOBODY, z1]
        have hw2 : (if oo = -1 then w + 1 else 0) ≤ p + 1 := by split <;> omega
        rw [scan_cons] at es
        generalize (if oo = -1 then w + 1 else 0) = w2 at b1 es hw2
        unfold b_Store_first_row_1
        rw [mSeq_eq, b1, SR.seq_next]
        by_cases z2 : w2 = m
        · rw [if_pos z2] at es
          have : mIfS (mB (mOp opEq (mVar 2) (mVar 1))) (mRet (mOp opSub (mOp opAddL (mVar 3) (mC (.int 1))) (mVar 1))) mNext [some (.ref n), some (.int m), some (.int w2), some (.int p), some (.int oo)] h' = .ok (.ret (.int ((p + 1 - m : Nat) : Int))) h' := by
            have : ((p + 1 - m : Nat) : Int) = (p : Int) + 1 - (m : Int) := by omega
            rw [this]
            simp [z2]
          rw [this]
          exact ⟨rfl, _, es, rfl⟩
        · rw [if_neg z2] at es
          have : mIfS (mB (mOp opEq (mVar 2) (mVar 1))) (mRet (mOp opSub (mOp opAddL (mVar 3) (mC (.int 1))) (mVar 1))) mNext [some (.ref n), some (.int m), some (.int w2), some (.int p), some (.int oo)] h' = .ok (.next [some (.ref n), some (.int m), some (.int w2), some (.int p), some (.int oo)]) h' := by
            have : ¬ (w2 : Int) = (m : Int) := by omega
            simp [this]
          rw [this]
          exact ⟨rfl, p + 1, w2, _, _, lt, hw2, rfl, es, rfl⟩
      · rintro δ h' ⟨rfl, p, w, b, c, hp, hw, e, es, rfl⟩
        have : p = s.O.length := by
          rcases Nat.lt_or_ge p s.O.length with q | q
          · have := congrArg List.length e
            rw [List.length_zipWith] at this
            simp at this
            omega
          · omega
        subst this
        rw [List.drop_eq_nil_of_le (Nat.le_refl _)] at es
        exact ⟨rfl, es, _, _, _, rfl⟩
      · exact ⟨rfl, 0, 0, none, none, Nat.zero_le _, Nat.le_refl _, by rw [List.drop_zero, List.drop_zero], by rw [List.drop_zero], rfl⟩
    obtain ⟨f, h', e4, rfl, q⟩ := lp.exN
    generalize List.zipWith (fun x y => D.tup [x, y]) ((List.range s.O.length).map fun (i : Nat) => D.int i) (s.O.map .int) = Z at e3 e4
    generalize (fun h'' => lstD (.ref s.b) h'' = some (s.O.map .int)) = G at e3 e4
    cases f with
    | next δ =>
      obtain ⟨q1, a, b, c, rfl⟩ := q
      simp [f_free v, z, f_owners v, e3, e4, n_owners v, firstP, q1]
    | ret d =>
      obtain ⟨q, q1, rfl⟩ := q
      simp [f_free v, z, f_owners v, e3, e4, firstP, q1]
    | brk _ => exact q.elim
    | cont _ => exact q.elim
theorem scan_le {m : Nat} (hm : 1 ≤ m) : ∀ (O : List Int) (p w q : Nat), w ≤ p → scan m O p w = some q → q + m ≤ p + O.length
  | [], _, _, _, _, e => by cases e
  | o :: r, p, w, q, hw, e => by
    unfold scan at e
    have hw2 : (if o = -1 then w + 1 else 0) ≤ p + 1 := by split <;> omega
    generalize (if o = -1 then w + 1 else 0) = w2 at e hw2
    by_cases z : w2 = m
    · rw [if_pos z] at e
      cases e
      simp
      omega
    · rw [if_neg z] at e
      have := scan_le hm r (p + 1) w2 q hw2 e
      simp
      omega
theorem firstP_le (s : Sto) {m : Nat} (hm : 1 ≤ m) : firstP s m = s.O.length ∨ firstP s m + m ≤ s.O.length := by
  unfold firstP
  split
  · exact .inl rfl
  · cases e : scan m s.O 0 0 with
    | none => exact .inl rfl
    | some q =>
      have := scan_le hm s.O 0 0 q (Nat.le_refl _) e
      exact .inr (by simpa using this)
def growP (s : Sto) (m : Nat) : Sto := if firstP s m = s.O.length then { s with W := s.W ++ List.replicate (8 * m) 0 } else { s with fr := s.fr - m }
def takenO (s : Sto) (r : Rg) (m : Nat) : List Int := s.O.take (firstP s m) ++ List.replicate m (r.key : Int) ++ s.O.drop (firstP s m + m)
def takeP (s : Sto) (r1 r2 : List Rg) (r : Rg) (m : Nat) : Sto := { growP s m with O := takenO s r m, rs := r1 ++ { r with pages := r.pages ++ (List.range m).map (firstP s m + ·) } :: r2 }
theorem takenO_len (s : Sto) (r : Rg) {m : Nat} (hm : 1 ≤ m) : (takenO s r m).length = if firstP s m = s.O.length then s.O.length + m else s.O.length := by
  unfold takenO
  rcases firstP_le s hm with e | e
  · simp [e]
  · have : firstP s m ≠ s.O.length := by omega
    simp [this]
    omega
end
end K51
namespace K51
open PySem PySem.Spec PyProof.Rows L2 MM
section
variable {h k g : MH} {n : Nat} {s : Sto}
theorem snd_end {h : MH} {x y : MO} : (h ++ [x, y])[h.length + 1]? = some y := by simp
theorem rep1 {x : D} {m : Nat} {h : MH} (hm : m ≤ 16777216) : opRep (.ref h.length) (.int m) (h ++ [.lst [x]]) = .ok (.ref (h.length + 1)) (h ++ [.lst [x], .lst (List.replicate m x)]) := by
  rw [opRep_at lst?_end (by refine ⟨by omega, by omega, ?_⟩; simp; omega)]
  simp [replicate_flat]
theorem grow_step (v : V h (cells n s)) (o : SOk n s) {m : Nat} {r : Rg} (hm : 1 ≤ m) (room : s.O.length + m ≤ 100000) : ∃ k1 g1, V k1 (cells n (growP s m)) ∧ Dj (cells n (growP s m)) ∧ k1.length = h.length ∧ Ev (cells n s) h k1 ∧
    mIfS (mB (mOp opEq (mVar 3) (mCall fLen (mCons (mFld ["Store"] "owners" (mVar 0)) (mNil))))) (mDrop (mMtd "list" fExtend (mFld ["Region", "Store"] "words" (mVar 0)) (mCons (mOp opRep (mLstN (mCons (mC (.int 0)) (mNil))) (mOp opMul (mVar 2) (mC c_PAGE_WORDS))) (mNil)))) (mFldAug ["Store"] "free" opSub (mVar 0) (mVar 2))
      [some (.ref n), some (.int r.key), some (.int m), some (.int (firstP s m))] h = .ok (.next [some (.ref n), some (.int r.key), some (.int m), some (.int (firstP s m))]) (k1 ++ g1) := by
  have w8 := o.w8
  by_cases z : firstP s m = s.O.length
  · have la := v.lt (ca (n := n))
    have eg : growP s m = { s with W := s.W ++ List.replicate (8 * m) 0 } := if_pos z
    rw [eg]
    refine ⟨h.set s.a (.lst ((s.W ++ List.replicate (8 * m) 0).map .int)), [.lst [.int 0], .lst (List.replicate (8 * m) (.int 0))], V.set (l1 := [(n, stO s)]) v o.dj _, Dj.set (l1 := [(n, stO s)]) o.dj _, List.length_set .., (Ev.refl _ _).set ca _, ?_⟩
    have r1 := rep1 (h := h) (x := .int 0) (m := 8 * m) (by omega)
    have mu : ∀ k, opMul (.int m) c_PAGE_WORDS k = .ok (.int ((8 * m : Nat) : Int)) k := fun k => by
      have lg : (m : Int).natAbs.log2 + (8 : Int).natAbs.log2 < 1000000 := by
        have : (m : Int).natAbs.log2 ≤ m := by
          have := Nat.log2_le_self (m : Int).natAbs
          omega
        have : (8 : Int).natAbs.log2 = 3 := by decide
        omega
      show opMul (.int m) (.int 8) k = _
      rw [opMul_int lg]
      congr 2
      omega
    have v2 := v.app [MO.lst [.int 0], .lst (List.replicate (8 * m) (.int 0))]
    have ex : fExtend (.ref s.a) [.ref (h.length + 1)] (h ++ [.lst [.int 0], .lst (List.replicate (8 * m) (.int 0))]) = .ok .non ((h.set s.a (.lst ((s.W ++ List.replicate (8 * m) 0).map .int))) ++ [.lst [.int 0], .lst (List.replicate (8 * m) (.int 0))]) := by
      have e1 : lst? (h ++ [MO.lst [.int 0], .lst (List.replicate (8 * m) (.int 0))]) (h.length + 1) = some (List.replicate (8 * m) (.int 0)) := lst?_of (by simp)
      unfold fExtend
      simp only [l_words v2, seqG_ref, e1]
      rw [if_pos (by simp; omega), List.set_append_left _ _ la]
      simp
    have ez : ((firstP s m : Nat) : Int) = (s.O.length : Int) := by omega
    rw [ez]
    generalize (h.set s.a (.lst ((s.W ++ List.replicate (8 * m) 0).map .int))) ++ [MO.lst [.int 0], .lst (List.replicate (8 * m) (.int 0))] = KK at ex ⊢
    generalize h ++ [MO.lst [.int 0], .lst (List.replicate (8 * m) (.int 0))] = HH at r1 ex
    generalize ((8 * m : Nat) : Int) = q at mu r1
    simp [f_owners v, n_owners v, f_words v, isTy_ref (l_words v), mu, r1, ex]
  · have eg : growP s m = { s with fr := s.fr - m } := if_neg z
    rw [eg]
    have t := toN v o s.bg s.tot (s.fr - m)
    refine ⟨_, [], t.v, t.ok.dj, t.len, t.ev, ?_⟩
    have ez : ¬ ((firstP s m : Nat) : Int) = (s.O.length : Int) := by omega
    have au : mFldAug ["Store"] "free" opSub (mVar 0) (mVar 2) [some (.ref n), some (.int r.key), some (.int m), some (.int (firstP s m))] h = .ok (.next [some (.ref n), some (.int r.key), some (.int m), some (.int (firstP s m))]) (h.set n (stO { s with bg := s.bg, tot := s.tot, fr := s.fr - m })) :=
      mFldAug_ok (k := n) (C := "Store") (x := .int s.fr) (y := .int m) (h1 := h) (h2 := h) (h3 := h) (z := .int (s.fr - m)) rfl (v.at' cn) (by decide) rfl rfl rfl (v.at' cn) (by simp)
    rw [List.append_nil]
    simp [f_owners v, n_owners v, ez, au]
theorem take_ok (v : V h (cells n s)) (o : SOk n s) {r1 r2 : List Rg} {r : Rg} (e : s.rs = r1 ++ r :: r2) {m : Nat} (hm : 1 ≤ m) (room : s.O.length + m ≤ 100000) (hp : r.pages.length ≤ 100000) : ∃ k, m_Store_take_pages [.ref n, .int r.key, .int m] h = .ok (.int (8 * firstP s m)) k ∧ To n h s k (takeP s r1 r2 r m) := by
  obtain ⟨k1, g1, v1, d1, l1, ev1, e1⟩ := grow_step (r := r) v o hm room
  have w8 := o.w8
  have fl := firstP_le s hm
  have tl := takenO_len s r hm
  have rs1 : (growP s m).rs = s.rs := by unfold growP; split <;> rfl
  have O1 : (growP s m).O = s.O := by unfold growP; split <;> rfl
  have a1 : (growP s m).a = s.a := by unfold growP; split <;> rfl
  have b1 : (growP s m).b = s.b := by unfold growP; split <;> rfl
  have c1 : (growP s m).c = s.c := by unfold growP; split <;> rfl
  have W1 : (growP s m).W.length = 8 * (takenO s r m).length := by
    rw [tl]
    unfold growP
    split <;> simp <;> omega
  have ft1 : ∀ O, (cells n { growP s m with O := O }).map (·.1) = (cells n s).map (·.1) := fun O => by
    unfold cells growP
    split <;> rfl
  let s2 : Sto := { growP s m with O := takenO s r m }
  have cb1 : ((growP s m).b, MO.lst ((growP s m).O.map .int)) ∈ cells n (growP s m) := cb
  have v2 : V (k1.set s.b (.lst ((takenO s r m).map .int))) (cells n s2) := by
    have hv : V (k1.set (growP s m).b (.lst ((takenO s r m).map .int))) (cells n s2) := V.set (l1 := [(n, stO (growP s m)), ((growP s m).a, .lst ((growP s m).W.map .int))]) (i := (growP s m).b) v1 d1 (.lst ((takenO s r m).map .int))
    rw [b1] at hv
    exact hv
  have ok2 : SOk n s2 := ⟨Dj.set (l1 := [(n, stO (growP s m)), ((growP s m).a, .lst ((growP s m).W.map .int))]) d1 _, by show ((growP s m).rs.map _).Nodup; rw [rs1]; exact o.ks, W1, by show (takenO s r m).length ≤ _; rw [tl]; split <;> omega⟩
  have t2 : To n h s (k1.set s.b (.lst ((takenO s r m).map .int))) s2 := ⟨v2, ev1.set (cb (n := n)) _, by rw [List.length_set, l1], ok2, ft1 _⟩
  have e2 : s2.rs = r1 ++ r :: r2 := rs1.trans e
  have t3 := toP v2 ok2 e2 (r.pages ++ (List.range m).map (firstP s m + ·))
  have tt := t2.trans t3
  refine ⟨_, tt.ret (g := g1 ++ [.lst [.int r.key], .lst (List.replicate m (.int r.key))]) rfl ?_ rfl, tt⟩
  show b_Store_take_pages [some (.ref n), some (.int r.key), some (.int m), none] h = _
  unfold b_Store_take_pages
  have s0 : mSet 3 (mMeth "Store" "first_row" m_Store_first_row (mVar 0) (mCons (mVar 2) (mNil))) [some (.ref n), some (.int r.key), some (.int m), none] h = .ok (.next [some (.ref n), some (.int r.key), some (.int m), some (.int (firstP s m))]) h := by
    simp [isI_ok' v (m := "first_row") (by decide), first_ok v o hm]
  rw [mSeq_eq, s0, SR.seq_next, mSeq_eq, e1, SR.seq_next, mSeq_eq]
  -- owners
  have v1g := v1.app g1
  have v1gg := v1g.app [MO.lst [.int r.key], .lst (List.replicate m (.int r.key))]
  have lb : s.b < (k1 ++ g1).length := by
    have := v1g.lt (cb (n := n))
    rw [b1] at this; exact this
  have lb1 : s.b < k1.length := by
    have := v1.lt (cb (n := n))
    rw [b1] at this; exact this
  have fo := f_owners v1gg
  rw [b1] at fo
  have lo := l_owners v1gg
  rw [b1, O1] at lo
  have rp := rep1 (h := k1 ++ g1) (x := .int r.key) (m := m) (by omega)
  have ec : lst? (k1 ++ g1 ++ [MO.lst [.int r.key], .lst (List.replicate m (.int r.key))]) ((k1 ++ g1).length + 1) = some (List.replicate m (.int r.key)) := lst?_of snd_end
  have cg : cutG (.ref ((k1 ++ g1).length + 1)) (.ref s.b) (some (firstP s m : Int)) (some ((firstP s m : Int) + (m : Int))) (k1 ++ g1 ++ [MO.lst [.int r.key], .lst (List.replicate m (.int r.key))]) =
      some (k1.set s.b (.lst ((takenO s r m).map .int)) ++ (g1 ++ [.lst [.int r.key], .lst (List.replicate m (.int r.key))])) := by
    rw [show (firstP s m : Int) + (m : Int) = ((firstP s m + m : Nat) : Int) by omega, cutG_at ec lo (by omega) (by omega) (by simp; omega), List.append_assoc, List.set_append_left _ _ lb1]
    unfold takenO
    simp
  have pm : ∀ k, mPart (mOp opAddL (mVar 3) (mVar 2)) [some (.ref n), some (.int r.key), some (.int m), some (.int (firstP s m))] k = .ok (some ((firstP s m : Int) + (m : Int))) k := fun _ => rfl
  have s1 : mCut (mOp opRep (mLstN (mCons (mVar 1) (mNil))) (mVar 2)) (mFld ["Store"] "owners" (mVar 0)) (mPart (mVar 3)) (mPart (mOp opAddL (mVar 3) (mVar 2))) [some (.ref n), some (.int r.key), some (.int m), some (.int (firstP s m))] (k1 ++ g1) =
      .ok (.next [some (.ref n), some (.int r.key), some (.int m), some (.int (firstP s m))]) (k1.set s.b (.lst ((takenO s r m).map .int)) ++ (g1 ++ [.lst [.int r.key], .lst (List.replicate m (.int r.key))])) := by
    have e0 : mOp opRep (mLstN (mCons (mVar 1) (mNil))) (mVar 2) [some (.ref n), some (.int r.key), some (.int m), some (.int (firstP s m))] (k1 ++ g1) = .ok (.ref ((k1 ++ g1).length + 1)) (k1 ++ g1 ++ [MO.lst [.int r.key], .lst (List.replicate m (.int r.key))]) := by
      rw [← rp]; simp
    unfold mCut
    rw [e0, R.st_ok]
    generalize k1 ++ g1 ++ [MO.lst [.int r.key], .lst (List.replicate m (.int r.key))] = K at fo cg ⊢
    generalize ((k1 ++ g1).length + 1) = z at cg ⊢
    simp [fo, pm, cg]
  rw [s1, SR.seq_next, mSeq_eq]
  -- the region's pages
  generalize hg2 : g1 ++ [MO.lst [.int r.key], .lst (List.replicate m (.int r.key))] = g2
  have v2g := v2.app g2
  have fr := f_regions v2g
  have ix := reg_ix v2g ok2 e2
  have rp := r_pages v2g (r := r) (by rw [e2]; simp)
  have rl := rl_pages v2g (r := r) (by rw [e2]; simp)
  have lp : r.pp < (k1.set s.b (.lst ((takenO s r m).map .int))).length := v2.lt (cp (n := n) (r := r) (by rw [e2]; simp))
  have lg : fLRg (.int (firstP s m)) (.int ((firstP s m : Int) + (m : Int))) (k1.set s.b (.lst ((takenO s r m).map .int)) ++ g2) = .ok (.rol (((List.range m).map (firstP s m + ·)).map fun (p : Nat) => D.int (p : Int))) (k1.set s.b (.lst ((takenO s r m).map .int)) ++ g2) := by
    rw [fLRg_ok (by omega), show ((firstP s m : Int) + (m : Int) - (firstP s m : Int)).toNat = m by omega]
    simp
  have ex : fExtend (.ref r.pp) [.rol (((List.range m).map (firstP s m + ·)).map fun (p : Nat) => D.int (p : Int))] (k1.set s.b (.lst ((takenO s r m).map .int)) ++ g2) = (if (r.pages.map fun (p : Nat) => D.int (p : Int)).length + (((List.range m).map (firstP s m + ·)).map fun (p : Nat) => D.int (p : Int)).length ≤ 16777216 then .ok .non ((k1.set s.b (.lst ((takenO s r m).map .int))).set r.pp (rgL { r with pages := r.pages ++ (List.range m).map (firstP s m + ·) }) ++ g2) else .stuck) := by
    unfold fExtend
    simp only [rl, seqG_rol]
    rw [List.set_append_left _ _ lp]
    simp [rgL]
  rw [if_pos (by simp; omega)] at ex
  have c2 : s2.c = s.c := c1
  have mu : ∀ k, opMul (.int (firstP s m)) c_PAGE_WORDS k = .ok (.int (8 * firstP s m)) k := fun k => by
    have lg : (firstP s m : Int).natAbs.log2 + (8 : Int).natAbs.log2 < 1000000 := by
      have : (firstP s m : Int).natAbs.log2 ≤ firstP s m := by
        have := Nat.log2_le_self (firstP s m : Int).natAbs
        omega
      have : (8 : Int).natAbs.log2 = 3 := by decide
      have := o.sm
      omega
    show opMul (.int (firstP s m)) (.int 8) k = _
    rw [opMul_int lg, Int.mul_comm]
  have ty := isTy_ref (T := "list") rl
  generalize (k1.set s.b (.lst ((takenO s r m).map .int))).set r.pp (rgL { r with pages := r.pages ++ (List.range m).map (firstP s m + ·) }) ++ g2 = K3 at ex ⊢
  generalize k1.set s.b (.lst ((takenO s r m).map .int)) ++ g2 = K2 at fr ix rp lg ex ty ⊢
  generalize (((List.range m).map (firstP s m + ·)).map fun (p : Nat) => D.int (p : Int)) = ls at lg ex
  simp [fr, ix, rp, ty, lg, ex, mu]
end
end K51
namespace K51
open PySem PySem.Spec PyProof.Rows L2 MM
section
variable {h k g : MH} {n : Nat} {s : Sto}
def need (r : Rg) (w : Nat) : Nat := if 8 < w then (w + 7) / 8 else if (-(r.behind : Int)) % 8 < w then 1 else 0
def stA (s : Sto) (r : Rg) (m : Nat) : Sto := if m = 0 then s else { growP s m with O := takenO s r m }
def pgA (s : Sto) (r : Rg) (m : Nat) : List Nat := if m = 0 then r.pages else r.pages ++ (List.range m).map (firstP s m + ·)
def atA (s : Sto) (r : Rg) (m : Nat) : Nat := if m = 0 then r.behind else 8 * firstP s m
def rgA (s : Sto) (r : Rg) (w : Nat) : Rg := { r with pages := pgA s r (need r w), behind := if 8 < w then r.behind else atA s r (need r w) + w }
def cellA (s : Sto) (r : Rg) (w : Nat) : Nat := atA s r (need r w)
def cellP (s : Sto) (r1 r2 : List Rg) (r : Rg) (w : Nat) : Sto := { stA s r (need r w) with W := blankL (stA s r (need r w)).W (cellA s r w) w, tot := s.tot + w, rs := r1 ++ { rgA s r w with words := r.words + w } :: r2 }
theorem mFldS_ok {cs : List Str} {f C : Str} {mo m : ME} {δ : MS} {h h1 h2 : MH} {k : Nat} {fs : List (Str × D)} {x : D} (em : m δ h = .ok x h1) (eo : mo δ h1 = .ok (.ref k) h2) (e1 : h2[k]? = some (.ins C fs)) (hc : C ∈ cs) (hl : fs.length < 1000) :
    mFldS cs f m mo δ h = .ok (.next δ) (h2.set k (.ins C (putFD f x fs))) := by
  rw [mFldS_eq, em, R.st_ok, eo, R.st_ok, setFG_ok e1 hc hl]
theorem room_ok (v : V h (cells n s)) (o : SOk n s) {r1 r2 : List Rg} {r : Rg} (e : s.rs = r1 ++ r :: r2) {w : Nat} (hw : 1 ≤ w) (hw8 : w ≤ 8) (room : s.O.length + 1 ≤ 100000) (hp : r.pages.length ≤ 100000) :
    ∃ k, m_Store_take_room [.ref n, .int r.key, .int w] h = .ok (.int (cellA s r w)) k ∧ To n h s k { stA s r (need r w) with rs := r1 ++ rgA s r w :: r2 } := by
  have rx := reg_ix v o e
  have rb := r_behind v (r := r) (by rw [e]; simp)
  have md : ∀ k, opMod (.int (-(r.behind : Int))) c_PAGE_WORDS k = .ok (.int ((-(r.behind : Int)) % 8)) k := fun k => opMod_int (by decide)
  have s0 : mSet 3 (mFld ["Region"] "behind" (mOp opIx (mFld ["Store"] "regions" (mVar 0)) (mVar 1))) [some (.ref n), some (.int r.key), some (.int w), none] h = .ok (.next [some (.ref n), some (.int r.key), some (.int w), some (.int r.behind)]) h := by
    simp [f_regions v, rx, rb]
  by_cases z : (-(r.behind : Int)) % 8 < w
  · have nd : need r w = 1 := by unfold need; rw [if_neg (by omega), if_pos z]
    obtain ⟨k1, e1, t1⟩ := take_ok v o e (m := 1) (by decide) room hp
    have tr := toR t1.v t1.ok (r := { r with pages := r.pages ++ (List.range 1).map (firstP s 1 + ·) }) (r1 := r1) (r2 := r2) rfl r.words (8 * firstP s 1 + w)
    have tt := t1.trans tr
    have hA : cellA s r w = 8 * firstP s 1 := by unfold cellA atA; rw [nd]; rfl
    have hS : ({ stA s r (need r w) with rs := r1 ++ rgA s r w :: r2 } : Sto) = { takeP s r1 r2 r 1 with rs := r1 ++ { r with pages := r.pages ++ (List.range 1).map (firstP s 1 + ·), words := r.words, behind := 8 * firstP s 1 + w } :: r2 } := by
      unfold stA rgA pgA atA takeP
      rw [nd]
      simp only [show ¬ (1 : Nat) = 0 by decide, if_false, show ¬ 8 < w by omega]
    rw [hA, hS]
    refine ⟨_, tt.ret0 rfl ?_ rfl, tt⟩
    show b_Store_take_room [some (.ref n), some (.int r.key), some (.int w), none] h = _
    unfold b_Store_take_room
    rw [mSeq_eq, s0, SR.seq_next, mSeq_eq]
    have s1 : mIfS (mB (mOp opLt (mOp opMod (mUn opNeg (mVar 3)) (mC c_PAGE_WORDS)) (mVar 2))) (mSet 3 (mMeth "Store" "take_pages" m_Store_take_pages (mVar 0) (mCons (mVar 1) (mCons (mC (.int 1)) (mNil))))) (mNext) [some (.ref n), some (.int r.key), some (.int w), some (.int r.behind)] h = .ok (.next [some (.ref n), some (.int r.key), some (.int w), some (.int (8 * firstP s 1))]) k1 := by
      have e1' : m_Store_take_pages [.ref n, .int r.key, .int 1] h = .ok (.int (8 * firstP s 1)) k1 := e1
      simp [md, z, isI_ok' v (m := "take_pages") (by decide), e1']
    rw [s1, SR.seq_next, mSeq_eq]
    have rx2 := reg_ix t1.v t1.ok (r := { r with pages := r.pages ++ (List.range 1).map (firstP s 1 + ·) }) (r1 := r1) (r2 := r2) rfl
    have fr2 := f_regions t1.v
    have fs : mFldS ["Region"] "behind" (mOp opAddL (mVar 3) (mVar 2)) (mOp opIx (mFld ["Store"] "regions" (mVar 0)) (mVar 1)) [some (.ref n), some (.int r.key), some (.int w), some (.int (8 * firstP s 1))] k1 =
        .ok (.next [some (.ref n), some (.int r.key), some (.int w), some (.int (8 * firstP s 1))]) (k1.set r.pos (rgO { r with pages := r.pages ++ (List.range 1).map (firstP s 1 + ·), words := r.words, behind := 8 * firstP s 1 + w })) := by
      rw [mFldS_ok (C := "Region") (k := r.pos) (h1 := k1) (h2 := k1) (x := .int ((8 * firstP s 1 + w : Nat) : Int)) (by simp) (by simp [fr2, rx2]) (t1.v.at' (cr (r := { r with pages := r.pages ++ (List.range 1).map (firstP s 1 + ·) }) (by show _ ∈ r1 ++ _ :: r2; simp))) (by decide) (by simp)]
      rfl
    rw [fs, SR.seq_next]
    simp
  · have nd : need r w = 0 := by unfold need; rw [if_neg (by omega), if_neg z]
    have tr := toR v o e r.words (r.behind + w)
    have hA : cellA s r w = r.behind := by unfold cellA atA; rw [nd]; rfl
    have hS : ({ stA s r (need r w) with rs := r1 ++ rgA s r w :: r2 } : Sto) = { s with rs := r1 ++ { r with words := r.words, behind := r.behind + w } :: r2 } := by
      unfold stA rgA pgA atA
      rw [nd]
      simp only [if_true, show ¬ 8 < w by omega, if_false]
    rw [hA, hS]
    refine ⟨_, tr.ret0 rfl ?_ rfl, tr⟩
    show b_Store_take_room [some (.ref n), some (.int r.key), some (.int w), none] h = _
    unfold b_Store_take_room
    rw [mSeq_eq, s0, SR.seq_next, mSeq_eq]
    have s1 : mIfS (mB (mOp opLt (mOp opMod (mUn opNeg (mVar 3)) (mC c_PAGE_WORDS)) (mVar 2))) (mSet 3 (mMeth "Store" "take_pages" m_Store_take_pages (mVar 0) (mCons (mVar 1) (mCons (mC (.int 1)) (mNil))))) (mNext) [some (.ref n), some (.int r.key), some (.int w), some (.int r.behind)] h = .ok (.next [some (.ref n), some (.int r.key), some (.int w), some (.int r.behind)]) h := by
      simp [md, z]
    rw [s1, SR.seq_next, mSeq_eq]
    have fs : mFldS ["Region"] "behind" (mOp opAddL (mVar 3) (mVar 2)) (mOp opIx (mFld ["Store"] "regions" (mVar 0)) (mVar 1)) [some (.ref n), some (.int r.key), some (.int w), some (.int r.behind)] h =
        .ok (.next [some (.ref n), some (.int r.key), some (.int w), some (.int r.behind)]) (h.set r.pos (rgO { r with words := r.words, behind := r.behind + w })) := by
      rw [mFldS_ok (C := "Region") (k := r.pos) (h1 := h) (h2 := h) (x := .int ((r.behind + w : Nat) : Int)) (by simp) (by simp [f_regions v, rx]) (v.at' (cr (r := r) (by rw [e]; simp))) (by decide) (by simp)]
      rfl
    rw [fs, SR.seq_next]
    simp
theorem stA_len (s : Sto) (r : Rg) (m : Nat) : (stA s r m).O.length = if m = 0 then s.O.length else if firstP s m = s.O.length then s.O.length + m else s.O.length := by
  unfold stA
  by_cases z : m = 0
  · simp [z]
  · simp only [z, if_false]
    exact takenO_len s r (by omega)
theorem cell_ok (v : V h (cells n s)) (o : SOk n s) {r1 r2 : List Rg} {r : Rg} (e : s.rs = r1 ++ r :: r2) {w : Nat} (hw : 1 ≤ w) (hw2 : w ≤ 1000) (room : s.O.length + 200 ≤ 100000) (hp : r.pages.length ≤ 100000) (hb : r.behind ≤ s.W.length) (hl : s.log.length ≤ 100000) :
    ∃ k, m_Store_cell [.ref n, .int r.key, .int w] h = .ok (.int (cellA s r w)) k ∧ To n h s k (noted (cellP s r1 r2 r w) "cell" r.key (cellA s r w)) := by
  have w8 := o.w8
  have al : ∃ k1, To n h s k1 { stA s r (need r w) with rs := r1 ++ rgA s r w :: r2 } ∧ mIfS (mB (mOp opGt (mVar 2) (mC c_PAGE_WORDS))) (mSet 3 (mMeth "Store" "take_pages" m_Store_take_pages (mVar 0) (mCons (mVar 1) (mCons (mOp opDiv (mOp opSub (mOp opAddL (mVar 2) (mC c_PAGE_WORDS)) (mC (.int 1))) (mC c_PAGE_WORDS)) (mNil))))) (mSet 3 (mMeth "Store" "take_room" m_Store_take_room (mVar 0) (mCons (mVar 1) (mCons (mVar 2) (mNil))))) [some (.ref n), some (.int r.key), some (.int w), none] h =
      .ok (.next [some (.ref n), some (.int r.key), some (.int w), some (.int (cellA s r w))]) k1 := by
    by_cases z : 8 < w
    · have nd : need r w = (w + 7) / 8 := by unfold need; rw [if_pos z]
      have n1 : 1 ≤ (w + 7) / 8 := by omega
      obtain ⟨k1, e1, t1⟩ := take_ok v o e (m := (w + 7) / 8) n1 (by omega) hp
      have hS : ({ stA s r (need r w) with rs := r1 ++ rgA s r w :: r2 } : Sto) = takeP s r1 r2 r ((w + 7) / 8) := by
        unfold stA rgA pgA atA takeP
        rw [nd]
        simp only [show ¬ (w + 7) / 8 = 0 by omega, if_false, z, if_true]
      have hA : ((cellA s r w : Nat) : Int) = 8 * (firstP s ((w + 7) / 8) : Int) := by unfold cellA atA; rw [nd, if_neg (by omega)]; omega
      rw [hS]
      refine ⟨k1, t1, ?_⟩
      have dv : ∀ k, opDiv (.int ((w : Int) + 8 - 1)) c_PAGE_WORDS k = .ok (.int (((w + 7) / 8 : Nat) : Int)) k := fun k => by
        show opDiv (.int ((w : Int) + 8 - 1)) (.int 8) k = _
        rw [opDiv_int (by decide) (by decide)]
        congr 2
        omega
      have z' : (8 : Int) < (w : Int) := by omega
      have pw : ∀ k, opGt (.int w) c_PAGE_WORDS k = .ok (.bl true) k := fun k => by
        show R.ok (D.bl (decide ((8 : Int) < (w : Int)))) k = _
        rw [decide_eq_true z']
      have ad : ∀ k, opAddL (.int w) c_PAGE_WORDS k = .ok (.int ((w : Int) + 8)) k := fun _ => rfl
      rw [hA]
      generalize (((w + 7) / 8 : Nat) : Int) = q at e1 dv
      simp [pw, ad, dv, isI_ok' v (m := "take_pages") (by decide), e1]
    · obtain ⟨k1, e1, t1⟩ := room_ok v o e hw (by omega) (by omega) hp
      refine ⟨k1, t1, ?_⟩
      have z' : ¬ (8 : Int) < (w : Int) := by omega
      have pw : ∀ k, opGt (.int w) c_PAGE_WORDS k = .ok (.bl false) k := fun k => by
        show R.ok (D.bl (decide ((8 : Int) < (w : Int)))) k = _
        rw [decide_eq_false z']
      simp [pw, isI_ok' v (m := "take_room") (by decide), e1]
  obtain ⟨k1, t1, e1⟩ := al
  have bd : cellA s r w + w ≤ (stA s r (need r w)).W.length := by
    have ow := t1.ok.w8
    have ol := stA_len s r (need r w)
    simp only at ow
    rw [ow, ol]
    unfold cellA atA need
    by_cases z : 8 < w
    · simp only [z, if_true, show ¬ (w + 7) / 8 = 0 by omega, if_false]
      have := firstP_le s (m := (w + 7) / 8) (by omega)
      split <;> omega
    · simp only [z, if_false]
      by_cases z2 : (-(r.behind : Int)) % 8 < w
      · simp only [z2, if_true, show ¬ (1 : Nat) = 0 by decide, if_false]
        have := firstP_le s (m := 1) (by decide)
        split <;> omega
      · simp only [z2, if_false, if_true]
        omega
  obtain ⟨k2, e2, t2⟩ := blank_ok t1.v t1.ok (a := cellA s r w) (m := w) bd
  have rx := reg_ix t2.v t2.ok (r := rgA s r w) (r1 := r1) (r2 := r2) rfl
  have fr := f_regions t2.v
  have t3 := toR t2.v t2.ok (r := rgA s r w) (r1 := r1) (r2 := r2) rfl (r.words + w) (rgA s r w).behind
  have t4 := toN t3.v t3.ok (stA s r (need r w)).bg (s.tot + w) (stA s r (need r w)).fr
  have lA : (stA s r (need r w)).log = s.log := by unfold stA growP; split; rfl; split <;> rfl
  obtain ⟨k5, e5, t5⟩ := note_ok t4.v t4.ok (by show (stA s r (need r w)).log.length ≤ _; rw [lA]; exact hl) (x := "cell") (y := r.key) (z := cellA s r w)
  have tt := (((t1.trans t2).trans t3).trans t4).trans t5
  refine ⟨_, tt.ret0 rfl ?_ rfl, tt⟩
  show b_Store_cell [some (.ref n), some (.int r.key), some (.int w), none] h = _
  unfold b_Store_cell
  have s0 : mDrop (mMeth "Store" "expect_current" m_Store_expect_current (mVar 0) (mCons (mVar 1) (mNil))) [some (.ref n), some (.int r.key), some (.int w), none] h = .ok (.next [some (.ref n), some (.int r.key), some (.int w), none]) h := by
    simp [isI_ok' v (m := "expect_current") (by decide), expect_ok v (reg_mem e)]
  have s1 : mIfS (mB (mOp opLt (mVar 2) (mC (.int 1)))) (mRaise "StoreError" ["reason"] (mCons (mC (.str "words")) (mNil))) (mNext) [some (.ref n), some (.int r.key), some (.int w), none] h = .ok (.next [some (.ref n), some (.int r.key), some (.int w), none]) h := by
    have : ¬ (w : Int) < 1 := by omega
    simp [this]
  rw [mSeq_eq, s0, SR.seq_next, mSeq_eq, s1, SR.seq_next, mSeq_eq, e1, SR.seq_next, mSeq_eq]
  have s2 : mDrop (mMeth "Store" "blank" m_Store_blank (mVar 0) (mCons (mVar 3) (mCons (mVar 2) (mNil)))) [some (.ref n), some (.int r.key), some (.int w), some (.int (cellA s r w))] k1 = .ok (.next [some (.ref n), some (.int r.key), some (.int w), some (.int (cellA s r w))]) k2 := by
    simp [isI_ok' t1.v (m := "blank") (by decide), e2]
  rw [s2, SR.seq_next, mSeq_eq]
  have cA : (stA s r (need r w)).c = s.c := by unfold stA growP; split; rfl; split <;> rfl
  have tA : (stA s r (need r w)).tot = s.tot := by unfold stA growP; split; rfl; split <;> rfl
  have em : mOp opIx (mFld ["Store"] "regions" (mVar 0)) (mVar 1) [some (.ref n), some (.int r.key), some (.int w), some (.int (cellA s r w))] k2 = .ok (.ref (rgA s r w).pos) k2 := by
    have rx' : opIx (.ref s.c) (.int r.key) k2 = .ok (.ref (rgA s r w).pos) k2 := by rw [← cA]; exact rx
    have fr' : fldG ["Store"] "regions" (.ref n) k2 = .ok (.ref s.c) k2 := by rw [← cA]; exact fr
    simp [fr', rx']
  have s3 : mFldAug ["Region", "Store"] "words" opAddI (mOp opIx (mFld ["Store"] "regions" (mVar 0)) (mVar 1)) (mVar 2) [some (.ref n), some (.int r.key), some (.int w), some (.int (cellA s r w))] k2 = .ok (.next [some (.ref n), some (.int r.key), some (.int w), some (.int (cellA s r w))]) (k2.set (rgA s r w).pos (rgO { rgA s r w with words := r.words + w, behind := (rgA s r w).behind })) :=
    mFldAug_ok (k := (rgA s r w).pos) (C := "Region") (x := .int r.words) (y := .int w) (h1 := k2) (h2 := k2) (h3 := k2) (z := .int (r.words + w)) em (t2.v.at' (cr (r := rgA s r w) (by show _ ∈ r1 ++ _ :: r2; simp))) (by decide) rfl rfl rfl (t2.v.at' (cr (r := rgA s r w) (by show _ ∈ r1 ++ _ :: r2; simp))) (by simp)
  rw [s3, SR.seq_next, mSeq_eq]
  generalize hk3 : k2.set (rgA s r w).pos (rgO { rgA s r w with words := r.words + w, behind := (rgA s r w).behind }) = k3 at t3 t4 e5 ⊢
  have s4 : mFldAug ["Store"] "total" opAddI (mVar 0) (mVar 2) [some (.ref n), some (.int r.key), some (.int w), some (.int (cellA s r w))] k3 = .ok (.next [some (.ref n), some (.int r.key), some (.int w), some (.int (cellA s r w))]) (k3.set n (stO { { stA s r (need r w) with W := blankL (stA s r (need r w)).W (cellA s r w) w, rs := r1 ++ { rgA s r w with words := r.words + w, behind := (rgA s r w).behind } :: r2 } with bg := (stA s r (need r w)).bg, tot := s.tot + w, fr := (stA s r (need r w)).fr })) :=
    mFldAug_ok (k := n) (C := "Store") (x := .int (stA s r (need r w)).tot) (y := .int w) (h1 := k3) (h2 := k3) (h3 := k3) (z := .int (s.tot + w)) rfl (t3.v.at' cn) (by decide) rfl rfl (by rw [tA]; rfl) (t3.v.at' cn) (by simp)
  rw [s4, SR.seq_next, mSeq_eq]
  generalize k3.set n _ = k4 at t4 e5 ⊢
  have s5 : mDrop (mMeth "Store" "note" m_Store_note (mVar 0) (mCons (mC (.str "cell")) (mCons (mVar 1) (mCons (mVar 3) (mNil))))) [some (.ref n), some (.int r.key), some (.int w), some (.int (cellA s r w))] k4 = .ok (.next [some (.ref n), some (.int r.key), some (.int w), some (.int (cellA s r w))]) k5 := by
    simp [isI_ok' t4.v (m := "note") (by decide), e5]
  rw [s5, SR.seq_next]
  simp
end
end K51
namespace K51
open PySem PySem.Spec PyProof.Rows L2 MM
section
variable {h k g : MH} {n : Nat} {s : Sto}
def endO (O : List Int) (ps : List Nat) : List Int := ps.foldl (fun O p => O.set p (-1)) O
def endW (W : List Int) (ps : List Nat) : List Int := ps.foldl (fun W p => blankL W (8 * p) 8) W
theorem forM_next {gd : MH → Prop} {tgt : MG} {body : MSt} {x : D} {r : List D} {δ δ1 δ2 : MS} {h h2 : MH} (hg : gd h) (et : tgt x δ = some δ1) (eb : body δ1 h = .ok (.next δ2) h2) : MM.forM gd tgt body (x :: r) δ h = MM.forM gd tgt body r δ2 h2 := by
  rw [MM.forM, if_pos hg, et]
  simp only [eb]
theorem endO_len : ∀ (ps : List Nat) (O : List Int), (endO O ps).length = O.length
  | [], _ => rfl
  | p :: ps, O => by show (endO (O.set p (-1)) ps).length = _; rw [endO_len ps, List.length_set]
theorem end_loop {K E : Option D} : ∀ (ps : List Nat) (s : Sto) (h : MH) (x : Option D), V h (cells n s) → SOk n s → (∀ p ∈ ps, p < s.O.length) → ∃ k x',
    MM.forM (fun _ => True) (mgName 3) b_Store_end_1 (ps.map fun (p : Nat) => D.int (p : Int)) [some (.ref n), K, E, x] h = .ok (.next [some (.ref n), K, E, x']) k ∧ To n h s k { s with O := endO s.O ps, W := endW s.W ps }
  | [], s, h, x, v, o, _ => ⟨h, x, (by rw [List.map_nil, MM.forM, if_pos trivial]), To.refl v o⟩
  | p :: ps, s, h, x, v, o, hp => by
    have w8 := o.w8
    have sm := o.sm
    have lt := hp p (by simp)
    have t1 := toO v o (s.O.set p (-1)) (List.length_set ..)
    obtain ⟨k2, e2, t2⟩ := blank_ok t1.v t1.ok (a := 8 * p) (m := 8) (by show _ ≤ s.W.length; omega)
    have t12 := t1.trans t2
    obtain ⟨k, x', e3, t3⟩ := end_loop ps { s with O := s.O.set p (-1), W := blankL s.W (8 * p) 8 } k2 (some (.int p)) t12.v t12.ok (fun q hq => by show q < (s.O.set p (-1)).length; rw [List.length_set]; exact hp q (by simp [hq]))
    refine ⟨k, x', ?_, t12.trans t3⟩
    have st := set_ok (d := .int (-1)) (i := (p : Int)) (l_owners v) (by omega) (by simp; omega) (by simp; omega)
    rw [show (s.O.map D.int).set ((p : Int)).toNat (.int (-1)) = (s.O.set p (-1)).map .int by rw [List.map_set]; rfl] at st
    have mu : ∀ k, opMul (.int p) c_PAGE_WORDS k = .ok (.int ((8 * p : Nat) : Int)) k := fun k => by
      have lg : (p : Int).natAbs.log2 + (8 : Int).natAbs.log2 < 1000000 := by
        have : (p : Int).natAbs.log2 ≤ p := by
          have := Nat.log2_le_self (p : Int).natAbs
          omega
        have : (8 : Int).natAbs.log2 = 3 := by decide
        omega
      show opMul (.int p) (.int 8) k = _
      rw [opMul_int lg]
      congr 2
      omega
    have e2' : m_Store_blank [.ref n, .int ((8 * p : Nat) : Int), .int 8] (h.set s.b (.lst ((s.O.set p (-1)).map .int))) = .ok .non k2 := e2
    have bd : b_Store_end_1 [some (.ref n), K, E, some (.int p)] h = .ok (.next [some (.ref n), K, E, some (.int p)]) k2 := by
      have v1 := t1.v
      unfold b_Store_end_1
      generalize h.set s.b (.lst ((s.O.set p (-1)).map .int)) = h1 at st e2' v1
      generalize ((8 * p : Nat) : Int) = q at mu e2'
      simp [c_NOBODY, f_owners v, mSetIx2, st, isI_ok' v1 (m := "blank") (by decide), mu, c_PAGE_WORDS, e2']
      first | done | (rw [show c_PAGE_WORDS = .int 8 from rfl] at mu; simp [mu, e2'])
    rw [List.map_cons, forM_next trivial (show mgName 3 (.int (p : Int)) [some (.ref n), K, E, x] = some [some (.ref n), K, E, some (.int p)] from rfl) bd]
    exact e3
def endP (s : Sto) (r1 r2 : List Rg) (r : Rg) : Sto := { s with O := endO s.O r.pages, W := endW s.W r.pages, rs := r1 ++ r2, fr := s.fr + r.pages.length, tot := s.tot - r.words }
theorem end_ok (v : V h (cells n s)) (o : SOk n s) {r1 r2 : List Rg} {r : Rg} (e : s.rs = r1 ++ r :: r2) (hp : ∀ p ∈ r.pages, p < s.O.length) (hl : s.log.length ≤ 100000) :
    ∃ k, m_Store_end [.ref n, .int r.key] h = .ok .non k ∧ V k (cells n (noted (endP s r1 r2 r) "end" r.key 0)) ∧ SOk n (noted (endP s r1 r2 r) "end" r.key 0) ∧ Ev (cells n (endP s r1 r2 r)) h k ∧ k.length = h.length ∧ (∀ i, i ∈ (cells n (endP s r1 r2 r)).map (·.1) → i ∈ (cells n s).map (·.1)) := by
  have sm := o.sm
  have ks := o.ks
  rw [e, List.map_append, List.map_cons, List.nodup_append, List.nodup_cons] at ks
  obtain ⟨q1, ⟨q2, q3⟩, q4⟩ := ks
  have key : ∀ x ∈ r1 ++ r2, x.key ≠ r.key := fun x hx z => by
    rcases List.mem_append.mp hx with hx | hx
    · exact q4 x.key (List.mem_map_of_mem hx) r.key (by simp) z
    · exact q2 (z ▸ List.mem_map_of_mem hx)
  -- without the region
  let s1 : Sto := { s with rs := r1 ++ r2 }
  have kf : (stK s).filter (fun p => decide (p.1 ≠ .inl (r.key : Int))) = stK s1 := by
    show List.filter _ (s.rs.map _) = (r1 ++ r2).map _
    rw [e, List.map_append, List.map_cons, List.filter_append, List.filter_cons_of_neg (by simp), List.map_append]
    have : ∀ l : List Rg, (∀ x ∈ l, x.key ≠ r.key) → (l.map fun r => ((.inl (r.key : Int) : Key), D.ref r.pos)).filter (fun p => decide (p.1 ≠ .inl (r.key : Int))) = l.map fun r => ((.inl (r.key : Int) : Key), D.ref r.pos) := fun l hl => by
      rw [List.filter_eq_self]
      intro p hp
      obtain ⟨x, hx, rfl⟩ := List.mem_map.mp hp
      have := hl x hx
      simp
      omega
    rw [this r1 fun x hx => key x (by simp [hx]), this r2 fun x hx => key x (by simp [hx])]
  have v0 : V (h.set s.c (.dic (stK s1))) ([(n, stO s), (s.a, .lst (s.W.map .int)), (s.b, .lst (s.O.map .int))] ++ (s.c, .dic (stK s1)) :: (s.u, wO n s) :: (s.lg, .lst (s.log.map evD)) :: s.rs.flatMap rgC) := V.set (l1 := [(n, stO s), (s.a, .lst (s.W.map .int)), (s.b, .lst (s.O.map .int))]) v o.dj _
  have dj0 : Dj ([(n, stO s), (s.a, .lst (s.W.map .int)), (s.b, .lst (s.O.map .int))] ++ (s.c, .dic (stK s1)) :: (s.u, wO n s) :: (s.lg, .lst (s.log.map evD)) :: s.rs.flatMap rgC) := Dj.set (l1 := [(n, stO s), (s.a, .lst (s.W.map .int)), (s.b, .lst (s.O.map .int))]) o.dj _
  have sub : ∀ p, p ∈ cells n s1 → p ∈ ([(n, stO s), (s.a, MO.lst (s.W.map .int)), (s.b, .lst (s.O.map .int))] ++ (s.c, .dic (stK s1)) :: (s.u, wO n s) :: (s.lg, .lst (s.log.map evD)) :: s.rs.flatMap rgC) := fun p hp => by
    simp only [cells, s1, List.mem_cons, List.mem_flatMap, List.mem_append] at hp
    rw [e]
    simp only [List.cons_append, List.nil_append, List.mem_cons, List.mem_flatMap, List.mem_append]
    rcases hp with hp | hp | hp | hp | hp | hp | ⟨x, hx, hp⟩
    · exact .inl hp
    · exact .inr (.inl hp)
    · exact .inr (.inr (.inl hp))
    · exact .inr (.inr (.inr (.inl hp)))
    · exact .inr (.inr (.inr (.inr (.inl hp))))
    · exact .inr (.inr (.inr (.inr (.inr (.inl hp)))))
    · exact .inr (.inr (.inr (.inr (.inr (.inr ⟨x, by rcases hx with hx | hx; exact .inl hx; exact .inr (.inr hx), hp⟩)))))
  have v1 : V (h.set s.c (.dic (stK s1))) (cells n s1) := fun p hp => v0 p (sub p hp)
  have slist : List.Sublist ((cells n s1).map (·.1)) (([(n, stO s), (s.a, MO.lst (s.W.map .int)), (s.b, .lst (s.O.map .int))] ++ (s.c, .dic (stK s1)) :: (s.u, wO n s) :: (s.lg, .lst (s.log.map evD)) :: s.rs.flatMap rgC).map (·.1)) := by
    refine List.Sublist.map _ ?_
    show List.Sublist ((n, stO s1) :: (s.a, MO.lst (s.W.map .int)) :: (s.b, .lst (s.O.map .int)) :: (s.c, .dic (stK s1)) :: (s.u, wO n s) :: (s.lg, .lst (s.log.map evD)) :: (r1 ++ r2).flatMap rgC) _
    refine .cons_cons _ (.cons_cons _ (.cons_cons _ (.cons_cons _ (.cons_cons _ (.cons_cons _ ?_)))))
    rw [e, List.flatMap_append, List.flatMap_append, List.flatMap_cons]
    exact List.Sublist.append (List.Sublist.refl _) (List.sublist_append_right _ _)
  have ok1 : SOk n s1 := ⟨List.Sublist.nodup slist dj0, by
    show ((r1 ++ r2).map _).Nodup
    rw [List.map_append, List.nodup_append]
    exact ⟨q1, q3, fun a ha b hb => q4 a ha b (by simp [hb])⟩, o.w8, o.sm⟩
  have rm : r ∈ s.rs := by rw [e]; simp
  -- the region's own cells are apart
  have apart : r.pos ∉ (cells n s1).map (·.1) ∧ r.pp ∉ (cells n s1).map (·.1) ∧ r.pos ≠ s.c ∧ r.pp ≠ s.c := by
    have d := o.dj
    unfold Dj at d
    rw [cells_split e] at d
    have hL1 : ∀ L1 : List (Nat × MO), ((L1 ++ (r.pos, rgO r) :: (r.pp, rgL r) :: r2.flatMap rgC).map (·.1)).Nodup → (r.pos ∉ r.pp :: (r2.flatMap rgC).map (·.1) ∧ r.pp ∉ (r2.flatMap rgC).map (·.1)) ∧ ∀ a ∈ L1.map (·.1), ∀ b ∈ r.pos :: r.pp :: (r2.flatMap rgC).map (·.1), a ≠ b := fun L1 q => by
      rw [List.map_append, List.map_cons, List.map_cons, List.nodup_append, List.nodup_cons, List.nodup_cons] at q
      exact ⟨⟨q.2.1.1, q.2.1.2.1⟩, q.2.2⟩
    obtain ⟨⟨d2, d3⟩, d5⟩ := hL1 _ d
    have hin : ∀ i, i ∈ (cells n s1).map (·.1) → i ∈ ((n, stO s) :: (s.a, MO.lst (s.W.map .int)) :: (s.b, .lst (s.O.map .int)) :: (s.c, .dic (stK s)) :: (s.u, wO n s) :: (s.lg, .lst (s.log.map evD)) :: r1.flatMap rgC).map (·.1) ∨ i ∈ (r2.flatMap rgC).map (·.1) := fun i hi => by
      simp only [cells, s1, List.map_cons, List.mem_cons, List.flatMap_append, List.map_append, List.mem_append] at hi
      simp only [List.map_cons, List.mem_cons]
      rcases hi with hi | hi | hi | hi | hi | hi | hi | hi
      · exact .inl (.inl hi)
      · exact .inl (.inr (.inl hi))
      · exact .inl (.inr (.inr (.inl hi)))
      · exact .inl (.inr (.inr (.inr (.inl hi))))
      · exact .inl (.inr (.inr (.inr (.inr (.inl hi)))))
      · exact .inl (.inr (.inr (.inr (.inr (.inr (.inl hi))))))
      · exact .inl (.inr (.inr (.inr (.inr (.inr (.inr hi))))))
      · exact .inr hi
    refine ⟨fun z => ?_, fun z => ?_, fun z => ?_, fun z => ?_⟩
    · rcases hin _ z with q | q
      · exact d5 _ q r.pos (by simp) rfl
      · exact d2 (by simp [q])
    · rcases hin _ z with q | q
      · exact d5 _ q r.pp (by simp) rfl
      · exact d3 q
    · exact d5 s.c (by simp) r.pos (by simp) z.symm
    · exact d5 s.c (by simp) r.pp (by simp) z.symm
  obtain ⟨ap1, ap2, ap3, ap4⟩ := apart
  obtain ⟨k2, x', e2, t2⟩ := end_loop (n := n) (K := some (.int r.key)) (E := some (.ref r.pos)) r.pages s1 (h.set s.c (.dic (stK s1))) none v1 ok1 hp
  have hpos : r.pos < h.length := v.lt (cr (n := n) rm)
  have hpp : r.pp < h.length := v.lt (cp (n := n) rm)
  have keep : ∀ (K : MH) (sk : Sto), To n (h.set s.c (.dic (stK s1))) s1 K sk → K[r.pos]? = some (rgO r) ∧ K[r.pp]? = some (rgL r) := fun K sk t => by
    refine ⟨?_, ?_⟩
    · rw [t.ev.2 r.pos (by rw [List.length_set]; exact hpos) ap1, List.getElem?_set_ne (fun z => ap3 z.symm)]; exact v.at' (cr rm)
    · rw [t.ev.2 r.pp (by rw [List.length_set]; exact hpp) ap2, List.getElem?_set_ne (fun z => ap4 z.symm)]; exact v.at' (cp rm)
  obtain ⟨c1, c2⟩ := keep _ _ t2
  have t3 := t2.trans (toN t2.v t2.ok s.bg s.tot (s.fr + r.pages.length))
  obtain ⟨c3, c4⟩ := keep _ _ t3
  have t4 := t3.trans (toN t3.v t3.ok s.bg (s.tot - r.words) (s.fr + r.pages.length))
  obtain ⟨k5, e5, t5⟩ := note_ok t4.v t4.ok hl (x := "end") (y := r.key) (z := 0)
  have t45 := t4.trans t5
  have l5 : k5.length = h.length := by rw [t45.len, List.length_set]
  have evh : Ev (cells n (endP s r1 r2 r)) h k5 := by
    refine ⟨by rw [l5]; exact Nat.le_refl _, fun i hi hn => ?_⟩
    have hn1 : i ∉ (cells n s1).map (·.1) := fun z => hn z
    have hnc : s.c ≠ i := fun z => hn1 (by rw [← z]; show s.c ∈ _; simp [cells, s1])
    have := t45.ev.2 i (by rw [List.length_set]; exact hi) hn1
    rw [List.getElem?_set_ne hnc] at this
    exact this
  have evn : Ev (cells n (noted (endP s r1 r2 r) "end" r.key 0)) h k5 := evh
  refine ⟨k5, ?_, t45.v, t45.ok, evh, l5, fun i hi => ?_⟩
  · have fin : b_Store_end [some (.ref n), some (.int r.key), none, none] h = .ok (.next [some (.ref n), some (.int r.key), some (.ref r.pos), x']) k5 := by
      obtain ⟨c01, c02⟩ := keep _ _ (To.refl v1 ok1)
      have a0 : mDrop (mMeth "Store" "expect_current" m_Store_expect_current (mVar 0) (mCons (mVar 1) (mNil))) [some (.ref n), some (.int r.key), none, none] h = .ok (.next [some (.ref n), some (.int r.key), none, none]) h := by
        simp [isI_ok' v (m := "expect_current") (by decide), expect_ok v (reg_mem e)]
      have dr := d_regions v
      have vd := reg_get o e
      have a1 : mSet 2 (mDPop (mFld ["Store"] "regions" (mVar 0)) (mVar 1)) [some (.ref n), some (.int r.key), none, none] h = .ok (.next [some (.ref n), some (.int r.key), some (.ref r.pos), none]) (h.set s.c (.dic (stK s1))) := by
        have : mDPop (mFld ["Store"] "regions" (mVar 0)) (mVar 1) [some (.ref n), some (.int r.key), none, none] h = .ok (.ref r.pos) (h.set s.c (.dic (stK s1))) := by
          unfold mDPop
          rw [mFld_eq, mVar_eq (show _ = some (some (D.ref n)) from rfl), R.bnd_ok, f_regions v, R.bnd_ok]
          simp only [dr]
          rw [mVar_eq (show _ = some (some (D.int r.key)) from rfl), R.bnd_ok]
          simp only [dr, show keyD (D.int (r.key : Int)) = some (.inl (r.key : Int)) from rfl, vd, kf]
        rw [mSet_eq, this, R.st_ok]
        rfl
      have fp : ∀ K : MH, K[r.pos]? = some (rgO r) → fldG ["Region"] "pages_taken" (.ref r.pos) K = .ok (.ref r.pp) K := fun K hK => fldG_ok hK (by decide) rfl
      have fw : ∀ K : MH, K[r.pos]? = some (rgO r) → fldG ["Region", "Store"] "words" (.ref r.pos) K = .ok (.int r.words) K := fun K hK => fldG_ok hK (by decide) rfl
      have ll : ∀ K : MH, K[r.pp]? = some (rgL r) → lst? K r.pp = some (r.pages.map fun (p : Nat) => D.int (p : Int)) := fun K hK => lst?_of hK
      have a2 : mFor (mSrc (mCall fList (mCons (mFld ["Region"] "pages_taken" (mVar 2)) (mNil)))) (mgName 3) (b_Store_end_1) [some (.ref n), some (.int r.key), some (.ref r.pos), none] (h.set s.c (.dic (stK s1))) = .ok (.next [some (.ref n), some (.int r.key), some (.ref r.pos), x']) k2 := by
        have f1 := fp _ c01
        have f2 : fList [.ref r.pp] (h.set s.c (.dic (stK s1))) = .ok (.rol (r.pages.map fun (p : Nat) => D.int (p : Int))) (h.set s.c (.dic (stK s1))) := fList_eq (by rw [seqG_ref]; exact ll _ c02)
        generalize (r.pages.map fun (p : Nat) => D.int (p : Int)) = L at e2 f2
        generalize h.set s.c (.dic (stK s1)) = H1 at e2 f1 f2
        simp [f1, f2, e2]
      have a3 : mFldAug ["Store"] "free" opAddI (mVar 0) (mCall fLen (mCons (mFld ["Region"] "pages_taken" (mVar 2)) (mNil))) [some (.ref n), some (.int r.key), some (.ref r.pos), x'] k2 = .ok (.next [some (.ref n), some (.int r.key), some (.ref r.pos), x']) (k2.set n (stO { s with rs := r1 ++ r2, O := endO s.O r.pages, W := endW s.W r.pages, bg := s.bg, tot := s.tot, fr := s.fr + r.pages.length })) :=
        mFldAug_ok (k := n) (C := "Store") (x := .int s.fr) (y := .int r.pages.length) (h1 := k2) (h2 := k2) (h3 := k2) (z := .int (s.fr + r.pages.length)) rfl (t2.v.at' cn) (by decide) rfl (by
          have f1 := fp _ c1
          have f2 : fLen [.ref r.pp] k2 = .ok (.int r.pages.length) k2 := by rw [fLen_ref (ll _ c2)]; simp
          simp [f1, f2]) (by rfl) (t2.v.at' cn) (by simp)
      have a4 : mFldAug ["Store"] "total" opSub (mVar 0) (mFld ["Region", "Store"] "words" (mVar 2)) [some (.ref n), some (.int r.key), some (.ref r.pos), x'] (k2.set n (stO { s with rs := r1 ++ r2, O := endO s.O r.pages, W := endW s.W r.pages, bg := s.bg, tot := s.tot, fr := s.fr + r.pages.length })) =
          .ok (.next [some (.ref n), some (.int r.key), some (.ref r.pos), x']) (((k2.set n (stO { s with rs := r1 ++ r2, O := endO s.O r.pages, W := endW s.W r.pages, bg := s.bg, tot := s.tot, fr := s.fr + r.pages.length })).set n (stO { s with rs := r1 ++ r2, O := endO s.O r.pages, W := endW s.W r.pages, bg := s.bg, tot := s.tot - r.words, fr := s.fr + r.pages.length }))) :=
        mFldAug_ok (k := n) (C := "Store") (x := .int s.tot) (y := .int r.words) (h1 := (k2.set n (stO { s with rs := r1 ++ r2, O := endO s.O r.pages, W := endW s.W r.pages, bg := s.bg, tot := s.tot, fr := s.fr + r.pages.length }))) (h2 := (k2.set n (stO { s with rs := r1 ++ r2, O := endO s.O r.pages, W := endW s.W r.pages, bg := s.bg, tot := s.tot, fr := s.fr + r.pages.length }))) (h3 := (k2.set n (stO { s with rs := r1 ++ r2, O := endO s.O r.pages, W := endW s.W r.pages, bg := s.bg, tot := s.tot, fr := s.fr + r.pages.length }))) (z := .int (s.tot - r.words)) rfl (t3.v.at' cn) (by decide) rfl (by
          have f1 := fw _ c3
          rw [mFld_eq, mVar_eq (show _ = some (some (D.ref r.pos)) from rfl), R.bnd_ok]
          exact f1) (by rfl) (t3.v.at' cn) (by simp)
      have v4 := t4.v
      unfold b_Store_end
      rw [mSeq_eq, a0, SR.seq_next, mSeq_eq, a1, SR.seq_next, mSeq_eq, a2, SR.seq_next, mSeq_eq, a3, SR.seq_next, mSeq_eq, a4, SR.seq_next]
      generalize (k2.set n (stO { s with rs := r1 ++ r2, O := endO s.O r.pages, W := endW s.W r.pages, bg := s.bg, tot := s.tot, fr := s.fr + r.pages.length })).set n (stO { s with rs := r1 ++ r2, O := endO s.O r.pages, W := endW s.W r.pages, bg := s.bg, tot := s.tot - r.words, fr := s.fr + r.pages.length }) = K4 at v4 e5 ⊢
      simp [isI_ok' v4 (m := "note") (by decide), e5]
    exact (fn_next (a := 2) (N := 4) rfl fin t45.v evn (fun p hp => by
      have := lows_of t45.v p hp
      rw [l5] at this
      exact this)).trans (by rw [List.take_of_length_le (by rw [l5]; exact Nat.le_refl _)])
  · have : i ∈ (cells n s1).map (·.1) := hi
    have := slist.subset this
    simpa [cells] using this
end
end K51
namespace K51
open PySem PySem.Spec PyProof.Rows L2 MM
section
variable {h k g : MH} {n : Nat} {s : Sto}
theorem at_end0 {h g : MH} {o : MO} : (h ++ o :: g)[h.length]? = some o := by simp
theorem region_init : m_Region___init__ [.ref h.length] (h ++ [.ins "Region" []]) = .ok .non (h ++ [rgO ⟨0, 0, h.length + 1, 0, [], 0⟩, .lst []]) := by
  show mFnN 1 1 b_Region___init__ _ _ = _
  rw [mFnN_eq (by rfl)]
  show mEndN (b_Region___init__ [some (.ref h.length)] (h ++ [.ins "Region" []])) = _
  have s1 : mFldS ["Region", "Store"] "words" (mC (.int 0)) (mVar 0) [some (.ref h.length)] (h ++ [.ins "Region" []]) = .ok (.next [some (.ref h.length)]) (h ++ [.ins "Region" [("words", .int 0)]]) := by
    rw [mFldS_ok (C := "Region") (k := h.length) (x := .int 0) (fs := []) rfl rfl at_end0 (by decide) (by decide), set_end]; rfl
  have s2 : mFldS ["Region"] "pages_taken" (mLstN (mNil)) (mVar 0) [some (.ref h.length)] (h ++ [.ins "Region" [("words", .int 0)]]) = .ok (.next [some (.ref h.length)]) (h ++ [.ins "Region" [("words", .int 0), ("pages_taken", .ref (h.length + 1))], .lst []]) := by
    rw [mFldS_ok (C := "Region") (k := h.length) (x := .ref (h.length + 1)) (h1 := h ++ [.ins "Region" [("words", .int 0)], .lst []]) (h2 := h ++ [.ins "Region" [("words", .int 0)], .lst []]) (fs := [("words", .int 0)]) (by simp) rfl at_end0 (by decide) (by decide)]
    simp
    rfl
  have s3 : mFldS ["Region"] "behind" (mC (.int 0)) (mVar 0) [some (.ref h.length)] (h ++ [.ins "Region" [("words", .int 0), ("pages_taken", .ref (h.length + 1))], .lst []]) = .ok (.next [some (.ref h.length)]) (h ++ [rgO ⟨0, 0, h.length + 1, 0, [], 0⟩, .lst []]) := by
    rw [mFldS_ok (C := "Region") (k := h.length) (x := .int 0) (h1 := h ++ [.ins "Region" [("words", .int 0), ("pages_taken", .ref (h.length + 1))], .lst []]) (h2 := h ++ [.ins "Region" [("words", .int 0), ("pages_taken", .ref (h.length + 1))], .lst []]) (fs := [("words", .int 0), ("pages_taken", .ref (h.length + 1))]) rfl rfl at_end0 (by decide) (by simp)]
    simp
    rfl
  unfold b_Region___init__
  rw [mSeq_eq, s1, SR.seq_next, mSeq_eq, s2, SR.seq_next, s3]
  rfl
def newRg (s : Sto) (h : MH) : Rg := ⟨s.bg, h.length, h.length + 1, 0, [], 0⟩
def beginP (s : Sto) (h : MH) : Sto := { s with rs := s.rs ++ [newRg s h], bg := s.bg + 1 }
theorem begin_ok (v : V h (cells n s)) (o : SOk n s) (kb : ∀ r ∈ s.rs, r.key < s.bg) (hb : s.bg ≤ 100000) (hr : s.rs.length ≤ 100000) (hl : s.log.length ≤ 100000) :
    ∃ k, m_Store_begin [.ref n] h = .ok (.int s.bg) k ∧ V k (cells n (noted (beginP s h) "begin" s.bg 0)) ∧ SOk n (noted (beginP s h) "begin" s.bg 0) ∧ Ev (cells n s) h k ∧ k.length = h.length + 2 := by
  have t1 := toN v o (s.bg + 1) s.tot s.fr
  have l1 : (h.set n (stO { s with bg := s.bg + 1, tot := s.tot, fr := s.fr })).length = h.length := List.length_set ..
  have ri := region_init (h := h.set n (stO { s with bg := s.bg + 1, tot := s.tot, fr := s.fr }))
  rw [l1] at ri
  have lc : s.c < h.length := v.lt (cc (n := n))
  -- the new state
  have v2 : V (h.set n (stO { s with bg := s.bg + 1, tot := s.tot, fr := s.fr }) ++ [rgO (newRg s h), rgL (newRg s h)]) (cells n { s with bg := s.bg + 1 }) := t1.v.app _
  have v3 : V ((h.set n (stO { s with bg := s.bg + 1, tot := s.tot, fr := s.fr }) ++ [rgO (newRg s h), rgL (newRg s h)]).set s.c (.dic (stK (beginP s h)))) ([(n, stO { s with bg := s.bg + 1 }), (s.a, .lst (s.W.map .int)), (s.b, .lst (s.O.map .int))] ++ (s.c, .dic (stK (beginP s h))) :: (s.u, wO n s) :: (s.lg, .lst (s.log.map evD)) :: s.rs.flatMap rgC) :=
    V.set (l1 := [(n, stO { s with bg := s.bg + 1 }), (s.a, .lst (s.W.map .int)), (s.b, .lst (s.O.map .int))]) v2 t1.ok.dj _
  have d3 : Dj ([(n, stO { s with bg := s.bg + 1 }), (s.a, MO.lst (s.W.map .int)), (s.b, .lst (s.O.map .int))] ++ (s.c, .dic (stK (beginP s h))) :: (s.u, wO n s) :: (s.lg, .lst (s.log.map evD)) :: s.rs.flatMap rgC) := Dj.set (l1 := [(n, stO { s with bg := s.bg + 1 }), (s.a, .lst (s.W.map .int)), (s.b, .lst (s.O.map .int))]) t1.ok.dj _
  have ec : cells n (beginP s h) = ([(n, stO { s with bg := s.bg + 1 }), (s.a, MO.lst (s.W.map .int)), (s.b, .lst (s.O.map .int))] ++ (s.c, .dic (stK (beginP s h))) :: (s.u, wO n s) :: (s.lg, .lst (s.log.map evD)) :: s.rs.flatMap rgC) ++ rgC (newRg s h) := by
    show (n, stO (beginP s h)) :: _ = _
    simp only [beginP, List.flatMap_append, List.flatMap_cons, List.flatMap_nil, List.append_nil]
    rfl
  have low : ∀ p ∈ ([(n, stO { s with bg := s.bg + 1 }), (s.a, MO.lst (s.W.map .int)), (s.b, .lst (s.O.map .int))] ++ (s.c, .dic (stK (beginP s h))) :: (s.u, wO n s) :: (s.lg, .lst (s.log.map evD)) :: s.rs.flatMap rgC), p.1 < h.length := fun p hp => by
    have : p.1 ∈ (cells n s).map (·.1) := by
      have := List.mem_map_of_mem (f := (·.1)) hp
      simpa [cells] using this
    obtain ⟨q, hq, e⟩ := List.mem_map.mp this
    rw [← e]; exact low_of v q hq
  have v4 : V ((h.set n (stO { s with bg := s.bg + 1, tot := s.tot, fr := s.fr }) ++ [rgO (newRg s h), rgL (newRg s h)]).set s.c (.dic (stK (beginP s h)))) (cells n (beginP s h)) := fun p hp => by
    rw [ec] at hp
    rcases List.mem_append.mp hp with q | q
    · exact v3 p q
    · simp only [rgC, newRg, List.mem_cons, List.not_mem_nil, or_false] at q
      rcases q with rfl | rfl
      · rw [List.getElem?_set_ne (by show s.c ≠ h.length; omega)]
        have := at_end0 (h := h.set n (stO { s with bg := s.bg + 1, tot := s.tot, fr := s.fr })) (o := rgO (newRg s h)) (g := [rgL (newRg s h)])
        rw [l1] at this
        exact this
      · rw [List.getElem?_set_ne (by show s.c ≠ h.length + 1; omega)]
        have := snd_end (h := h.set n (stO { s with bg := s.bg + 1, tot := s.tot, fr := s.fr })) (x := rgO (newRg s h)) (y := rgL (newRg s h))
        rw [l1] at this
        exact this
  have ok4 : SOk n (beginP s h) := by
    refine ⟨?_, ?_, o.w8, o.sm⟩
    · unfold Dj
      rw [ec, List.map_append, List.nodup_append]
      refine ⟨d3, by simp [rgC, newRg], fun a ha b hb z => ?_⟩
      obtain ⟨p, hp, rfl⟩ := List.mem_map.mp ha
      have := low p hp
      simp [rgC, newRg] at hb
      omega
    · show ((s.rs ++ [newRg s h]).map (·.key)).Nodup
      rw [List.map_append, List.nodup_append]
      refine ⟨o.ks, by simp, fun a ha b hb z => ?_⟩
      obtain ⟨r, hr, rfl⟩ := List.mem_map.mp ha
      have := kb r hr
      simp [newRg] at hb
      omega
  have ev : Ev (cells n s) h ((h.set n (stO { s with bg := s.bg + 1, tot := s.tot, fr := s.fr }) ++ [rgO (newRg s h), rgL (newRg s h)]).set s.c (.dic (stK (beginP s h)))) := ((t1.ev).app _).set (cc (n := n)) _
  obtain ⟨k5, e5, t5⟩ := note_ok v4 ok4 hl (x := "begin") (y := s.bg) (z := 0)
  have low5 : ∀ i, i ∈ (cells n (beginP s h)).map (·.1) → i < h.length → i ∈ (cells n s).map (·.1) := fun i hi hlt => by
    rw [ec, List.map_append, List.mem_append] at hi
    rcases hi with q | q
    · simpa [cells] using q
    · simp only [rgC, newRg, List.map_cons, List.map_nil, List.mem_cons, List.not_mem_nil, or_false] at q
      omega
  have ev5 : Ev (cells n s) h k5 := ⟨by rw [t5.len]; exact ev.1, fun i hi hn => by
    rw [t5.ev.2 i (Nat.lt_of_lt_of_le hi ev.1) (fun q => hn (low5 i q hi))]; exact ev.2 i hi hn⟩
  refine ⟨k5, ?_, t5.v, t5.ok, ev5, by rw [t5.len, List.length_set, List.length_append, l1]; rfl⟩
  show mFnN 1 2 b_Store_begin _ _ = _
  rw [mFnN_eq (by rfl)]
  show mEndN (b_Store_begin [some (.ref n), none] h) = _
  have a0 : mSet 1 (mFld ["Store"] "begun" (mVar 0)) [some (.ref n), none] h = .ok (.next [some (.ref n), some (.int s.bg)]) h := by simp [f_begun v]
  have a1 : mFldAug ["Store"] "begun" opAddI (mVar 0) (mC (.int 1)) [some (.ref n), some (.int s.bg)] h = .ok (.next [some (.ref n), some (.int s.bg)]) (h.set n (stO { s with bg := s.bg + 1, tot := s.tot, fr := s.fr })) := by
    rw [mFldAug_ok (k := n) (C := "Store") (x := .int s.bg) (y := .int 1) (h1 := h) (h2 := h) (h3 := h) (z := .int ((s.bg : Int) + 1)) (by rfl) (v.at' cn) (by decide) (by rfl) (by rfl) (by rfl) (v.at' cn) (by simp)]
    rfl
  have fr := f_regions v2
  have mk : mMake "Region" m_Region___init__ mNil [some (.ref n), some (.int s.bg)] (h.set n (stO { s with bg := s.bg + 1, tot := s.tot, fr := s.fr })) = .ok (.ref h.length) (h.set n (stO { s with bg := s.bg + 1, tot := s.tot, fr := s.fr }) ++ [rgO (newRg s h), rgL (newRg s h)]) := by
    rw [mMake_eq, mNil_eq, R.bnd_ok]
    unfold mkD
    rw [l1, ri, R.bnd_ok]
    rfl
  have hd : (h.set n (stO { s with bg := s.bg + 1, tot := s.tot, fr := s.fr }) ++ [rgO (newRg s h), rgL (newRg s h)])[s.c]? = some (.dic (stK s)) := v2.at' (cc (n := n))
  have sg : setG2 (.ref s.c) (.int s.bg) (.ref h.length) (h.set n (stO { s with bg := s.bg + 1, tot := s.tot, fr := s.fr }) ++ [rgO (newRg s h), rgL (newRg s h)]) = some ((h.set n (stO { s with bg := s.bg + 1, tot := s.tot, fr := s.fr }) ++ [rgO (newRg s h), rgL (newRg s h)]).set s.c (.dic (stK (beginP s h)))) := by
    have pk : putD (stK s) (.inl (s.bg : Int)) (.ref h.length) = stK (beginP s h) := by
      unfold putD
      have : (stK s).any (fun p => decide (p.1 = .inl (s.bg : Int))) = false := by
        rw [List.any_eq_false]
        intro p hp
        unfold stK at hp
        obtain ⟨r, hr, rfl⟩ := List.mem_map.mp hp
        have := kb r hr
        simp
        omega
      rw [this, if_neg (by decide)]
      unfold stK beginP newRg
      simp
    unfold setG2
    simp only [hd, show keyD (D.int (s.bg : Int)) = some (.inl (s.bg : Int)) from rfl, Option.bind_some]
    rw [if_pos (by unfold stK; rw [List.length_map]; omega), pk]
  generalize h.set n (stO { s with bg := s.bg + 1, tot := s.tot, fr := s.fr }) ++ [rgO (newRg s h), rgL (newRg s h)] = H2 at fr mk sg v4 e5 ⊢
  generalize h.set n (stO { s with bg := s.bg + 1, tot := s.tot, fr := s.fr }) = H1 at a1 mk
  generalize H2.set s.c (.dic (stK (beginP s h))) = H3 at sg v4 e5 ⊢
  have a2 : mSetIx2 (mMake "Region" m_Region___init__ mNil) (mFld ["Store"] "regions" (mVar 0)) (mVar 1) [some (.ref n), some (.int s.bg)] H1 = .ok (.next [some (.ref n), some (.int s.bg)]) H3 := by
    unfold mSetIx2
    rw [mk]
    have fr' : fldG ["Store"] "regions" (.ref n) H2 = .ok (.ref s.c) H2 := fr
    simp [fr', sg]
  unfold b_Store_begin
  rw [mSeq_eq, a0, SR.seq_next, mSeq_eq, a1, SR.seq_next, mSeq_eq, a2, SR.seq_next]
  simp [isI_ok' v4 (m := "note") (by decide), e5]
  rfl
theorem putFD_lt {f : Str} {x : D} : ∀ {fs : List (Str × D)} {m : Nat}, fs.length + (m + 1) < 1000 → (putFD f x fs).length + m < 1000
  | [], m, h => by simpa [putFD, Nat.add_comm] using h
  | (g, y) :: r, m, h => by
    unfold putFD
    split
    · simp at h ⊢; omega
    · have := putFD_lt (f := f) (x := x) (fs := r) (m := m + 1) (by simp at h; omega)
      simp; omega
def stN (k : Nat) : MO := .ins "Store" [("words", .ref (k + 1)), ("owners", .ref (k + 2)), ("regions", .ref (k + 3)), ("begun", .int 0), ("total", .int 0), ("free", .int 0), ("watch", .non)]
def sto0 (k : Nat) : Sto := ⟨k + 1, k + 2, k + 3, [], [], [], 0, 0, 0, k + 4, k + 6, []⟩
theorem store_made {δ : MS} : mMake "Store" m_Store___init__ mNil δ h = .ok (.ref h.length) (h ++ [stN h.length, .lst [], .lst [], .dic []]) := by
  rw [mMake_eq, mNil_eq, R.bnd_ok]
  unfold mkD
  have e : m_Store___init__ [.ref h.length] (h ++ [.ins "Store" []]) = .ok .non (h ++ [stN h.length, .lst [], .lst [], .dic []]) := by
    show mFnN 1 1 b_Store___init__ _ _ = _
    rw [mFnN_eq (by rfl)]
    show mEndN (b_Store___init__ [some (.ref h.length)] (h ++ [.ins "Store" []])) = _
    have st : ∀ (cs : List Str) (f : Str) (m : ME) (x : D) (fs : List (Str × D)) (g g' : MH), ("Store" : Str) ∈ cs → fs.length < 1000 → m [some (.ref h.length)] (h ++ .ins "Store" fs :: g) = .ok x (h ++ .ins "Store" fs :: g') → mFldS cs f m (mVar 0) [some (.ref h.length)] (h ++ .ins "Store" fs :: g) = .ok (.next [some (.ref h.length)]) (h ++ .ins "Store" (putFD f x fs) :: g') := fun cs f m x fs g g' hc hl em => by
      rw [mFldS_ok (C := "Store") (k := h.length) (x := x) (h1 := h ++ .ins "Store" fs :: g') (h2 := h ++ .ins "Store" fs :: g') (fs := fs) em rfl at_end0 hc hl]
      simp
    unfold b_Store___init__
    rw [mSeq_eq, st _ "words" _ (.ref (h.length + 1)) [] [] [.lst []] (by decide) (by decide) (by simp), SR.seq_next, mSeq_eq,
      st _ "owners" _ (.ref (h.length + 2)) _ [.lst []] [.lst [], .lst []] (by decide) (by show _ + 0 < 1000; repeat (first | (simp; done) | refine putFD_lt ?_)) (by simp), SR.seq_next, mSeq_eq,
      st _ "regions" _ (.ref (h.length + 3)) _ [.lst [], .lst []] [.lst [], .lst [], .dic []] (by decide) (by show _ + 0 < 1000; repeat (first | (simp; done) | refine putFD_lt ?_)) (by simp [mDicN]), SR.seq_next, mSeq_eq,
      st _ "begun" _ (.int 0) _ [.lst [], .lst [], .dic []] [.lst [], .lst [], .dic []] (by decide) (by show _ + 0 < 1000; repeat (first | (simp; done) | refine putFD_lt ?_)) (by simp), SR.seq_next, mSeq_eq,
      st _ "total" _ (.int 0) _ [.lst [], .lst [], .dic []] [.lst [], .lst [], .dic []] (by decide) (by show _ + 0 < 1000; repeat (first | (simp; done) | refine putFD_lt ?_)) (by simp), SR.seq_next, mSeq_eq,
      st _ "free" _ (.int 0) _ [.lst [], .lst [], .dic []] [.lst [], .lst [], .dic []] (by decide) (by show _ + 0 < 1000; repeat (first | (simp; done) | refine putFD_lt ?_)) (by simp), SR.seq_next,
      st _ "watch" _ .non _ [.lst [], .lst [], .dic []] [.lst [], .lst [], .dic []] (by decide) (by show _ + 0 < 1000; repeat (first | (simp; done) | refine putFD_lt ?_)) (by simp)]
    rfl
  rw [e, R.bnd_ok]
theorem store_v {g : MH} : V (h ++ stO (sto0 h.length) :: .lst [] :: .lst [] :: .dic [] :: wO h.length (sto0 h.length) :: .lst [] :: .lst [] :: g) (cells h.length (sto0 h.length)) := by
  intro p hp
  simp only [cells, sto0, stK, List.map_nil, List.flatMap_nil, List.mem_cons, List.not_mem_nil, or_false] at hp
  rcases hp with rfl | rfl | rfl | rfl | rfl | rfl <;> simp [sto0]
theorem store_sok : SOk h.length (sto0 h.length) := by
  refine ⟨?_, by simp [sto0], rfl, by simp [sto0]⟩
  unfold Dj
  simp [cells, sto0]
end
end K51
namespace K51
open PySem PySem.Spec PyProof.Rows L2 MM
structure Sp where
  pos : Nat
  nxt : Nat
  left : Nat
structure Mod where
  p0 : Nat
  p1 : Nat
  p2 : Nat
  p3 : Nat
  p4 : Nat
  O : List Int
  W : List Int
  op : List Bool
  sp : List Sp
  hd : List Int
def spO (x : Sp) : Nat × MO := (x.pos, .lst [.int x.nxt, .int x.left])
def mcells (m : Nat) (M : Mod) : List (Nat × MO) := (m, .lst [.ref M.p0, .ref M.p1, .ref M.p2, .ref M.p3, .ref M.p4]) :: (M.p0, .lst (M.O.map .int)) :: (M.p1, .lst (M.W.map .int)) :: (M.p2, .lst (M.op.map .bl)) :: (M.p3, .lst (M.sp.map fun x => .ref x.pos)) :: (M.p4, .lst (M.hd.map .int)) :: M.sp.map spO
structure MOk (m : Nat) (M : Mod) : Prop where
  dj : Dj (mcells m M)
  w8 : M.W.length = 8 * M.O.length
  sm : M.O.length ≤ 100000
  ls : M.sp.length = M.op.length
  lh : M.hd.length = M.op.length
  lo : M.op.length ≤ 100000
structure MT (m : Nat) (h : MH) (M : Mod) (k : MH) (M' : Mod) : Prop where
  v : V k (mcells m M')
  ev : Ev (mcells m M) h k
  len : k.length = h.length
  dj : Dj (mcells m M')
  ft : (mcells m M').map (·.1) = (mcells m M).map (·.1)
section
variable {h k k' g : MH} {m : Nat} {M M' M'' : Mod} {a N : Nat} {ms : MSt} {ds : List D} {d : D} {δ : MS}
theorem bls_lows (n : Nat) : ∀ l : List Bool, lowsL n (l.map D.bl) = true
  | [] => rfl
  | _ :: r => by show (true && lowsL n (r.map D.bl)) = true; rw [bls_lows n r]; rfl
theorem m0 : (m, MO.lst [.ref M.p0, .ref M.p1, .ref M.p2, .ref M.p3, .ref M.p4]) ∈ mcells m M := by simp [mcells]
theorem mO : (M.p0, MO.lst (M.O.map .int)) ∈ mcells m M := by simp [mcells]
theorem mW : (M.p1, MO.lst (M.W.map .int)) ∈ mcells m M := by simp [mcells]
theorem mP : (M.p2, MO.lst (M.op.map .bl)) ∈ mcells m M := by simp [mcells]
theorem mS : (M.p3, MO.lst (M.sp.map fun x => .ref x.pos)) ∈ mcells m M := by simp [mcells]
theorem mH : (M.p4, MO.lst (M.hd.map .int)) ∈ mcells m M := by simp [mcells]
theorem mX {x : Sp} (hx : x ∈ M.sp) : (x.pos, MO.lst [.int x.nxt, .int x.left]) ∈ mcells m M := by
  simp only [mcells, List.mem_cons, List.mem_map]
  exact .inr (.inr (.inr (.inr (.inr (.inr ⟨x, hx, rfl⟩)))))
theorem mlows (v : V h (mcells m M)) : ∀ p ∈ mcells m M, p.2.lows h.length = true := by
  intro p hp
  simp only [mcells, List.mem_cons, List.mem_map] at hp
  have l0 := v.lt (mO (m := m) (M := M))
  have l1 := v.lt (mW (m := m) (M := M))
  have l2 := v.lt (mP (m := m) (M := M))
  have l3 := v.lt (mS (m := m) (M := M))
  have l4 := v.lt (mH (m := m) (M := M))
  rcases hp with rfl | rfl | rfl | rfl | rfl | rfl | ⟨x, hx, rfl⟩
  · simp [MO.lows, lowsL, D.lows, l0, l1, l2, l3, l4]
  · exact ints_lows _ _
  · exact ints_lows _ _
  · exact bls_lows _ _
  · show lowsL h.length (M.sp.map fun x => D.ref x.pos) = true
    have : ∀ l : List Sp, (∀ x ∈ l, x ∈ M.sp) → lowsL h.length (l.map fun x => D.ref x.pos) = true := fun l => by
      induction l with
      | nil => intro _; rfl
      | cons x r ih =>
        intro hl
        show (decide (x.pos < h.length) && lowsL h.length (r.map fun x => D.ref x.pos)) = true
        rw [ih fun y hy => hl y (by simp [hy]), decide_eq_true (v.lt (mX (m := m) (hl x (by simp))))]; rfl
    exact this _ fun x hx => hx
  · exact ints_lows _ _
  · rfl
theorem MT.refl (v : V h (mcells m M)) (d : Dj (mcells m M)) : MT m h M h M := ⟨v, Ev.refl _ _, rfl, d, rfl⟩
theorem MT.trans (t : MT m h M k M') (t' : MT m k M' k' M'') : MT m h M k' M'' := ⟨t'.v, t.ev.trans t'.ev fun i hi => t.ft ▸ hi, t'.len.trans t.len, t'.dj, t'.ft.trans t.ft⟩
theorem MT.left (t : MT m h M k M') : LeftOf h k := by
  have e : Ev (mcells m M') h k := ⟨t.ev.1, fun i hi hn => t.ev.2 i hi (t.ft ▸ hn)⟩
  exact e.left t.v fun p hp => by rw [← t.len]; exact mlows t.v p hp
theorem MT.next (t : MT m h M k M') (el : ds.length = a) (r : ms (mStart N ds) h = .ok (.next δ) (k ++ g)) : mFn a N ms ds h = .ok .non k := by
  rw [mFn_eq el, r]
  show leave h .non (k ++ g) = _
  rw [leave_eq t.left.app rfl, take_app t.len]
theorem MT.next0 (t : MT m h M k M') (el : ds.length = a) (r : ms (mStart N ds) h = .ok (.next δ) k) : mFn a N ms ds h = .ok .non k := t.next (g := []) el (by rw [List.append_nil]; exact r)
theorem MT.ret (t : MT m h M k M') (el : ds.length = a) (r : ms (mStart N ds) h = .ok (.ret d) (k ++ g)) (q : d.lows h.length = true) : mFn a N ms ds h = .ok d k := mFn_ret el r rfl t.len t.left q
theorem MT.ret0 (t : MT m h M k M') (el : ds.length = a) (r : ms (mStart N ds) h = .ok (.ret d) k) (q : d.lows h.length = true) : mFn a N ms ds h = .ok d k := t.ret (g := []) el (by rw [List.append_nil]; exact r) q
section
variable (v : V h (mcells m M))
include v
theorem x0 : opIx (.ref m) (.int 0) h = .ok (.ref M.p0) h := opIx_of (by rw [ixG_ref, lst?_of (v.at' m0)]; rfl)
theorem x1 : opIx (.ref m) (.int 1) h = .ok (.ref M.p1) h := opIx_of (by rw [ixG_ref, lst?_of (v.at' m0)]; rfl)
theorem x2 : opIx (.ref m) (.int 2) h = .ok (.ref M.p2) h := opIx_of (by rw [ixG_ref, lst?_of (v.at' m0)]; rfl)
theorem x3 : opIx (.ref m) (.int 3) h = .ok (.ref M.p3) h := opIx_of (by rw [ixG_ref, lst?_of (v.at' m0)]; rfl)
theorem x4 : opIx (.ref m) (.int 4) h = .ok (.ref M.p4) h := opIx_of (by rw [ixG_ref, lst?_of (v.at' m0)]; rfl)
theorem yO : lst? h M.p0 = some (M.O.map .int) := lst?_of (v.at' mO)
theorem yW : lst? h M.p1 = some (M.W.map .int) := lst?_of (v.at' mW)
theorem yP : lst? h M.p2 = some (M.op.map .bl) := lst?_of (v.at' mP)
theorem yS : lst? h M.p3 = some (M.sp.map fun x => .ref x.pos) := lst?_of (v.at' mS)
theorem yH : lst? h M.p4 = some (M.hd.map .int) := lst?_of (v.at' mH)
theorem nO : fLen [.ref M.p0] h = .ok (.int M.O.length) h := by rw [fLen_ref (yO v)]; simp
theorem nW : fLen [.ref M.p1] h = .ok (.int M.W.length) h := by rw [fLen_ref (yW v)]; simp
theorem nP : fLen [.ref M.p2] h = .ok (.int M.op.length) h := by rw [fLen_ref (yP v)]; simp
end
theorem mtO (v : V h (mcells m M)) (d : Dj (mcells m M)) (O : List Int) : MT m h M (h.set M.p0 (.lst (O.map .int))) { M with O := O } :=
  ⟨V.set (l1 := [(m, .lst [.ref M.p0, .ref M.p1, .ref M.p2, .ref M.p3, .ref M.p4])]) v d _, (Ev.refl _ _).set mO _, List.length_set .., Dj.set (l1 := [(m, .lst [.ref M.p0, .ref M.p1, .ref M.p2, .ref M.p3, .ref M.p4])]) d _, rfl⟩
theorem mtW (v : V h (mcells m M)) (d : Dj (mcells m M)) (W : List Int) : MT m h M (h.set M.p1 (.lst (W.map .int))) { M with W := W } :=
  ⟨V.set (l1 := [(m, .lst [.ref M.p0, .ref M.p1, .ref M.p2, .ref M.p3, .ref M.p4]), (M.p0, .lst (M.O.map .int))]) v d _, (Ev.refl _ _).set mW _, List.length_set .., Dj.set (l1 := [(m, .lst [.ref M.p0, .ref M.p1, .ref M.p2, .ref M.p3, .ref M.p4]), (M.p0, .lst (M.O.map .int))]) d _, rfl⟩
theorem mtP (v : V h (mcells m M)) (d : Dj (mcells m M)) (op : List Bool) : MT m h M (h.set M.p2 (.lst (op.map .bl))) { M with op := op } :=
  ⟨V.set (l1 := [(m, .lst [.ref M.p0, .ref M.p1, .ref M.p2, .ref M.p3, .ref M.p4]), (M.p0, .lst (M.O.map .int)), (M.p1, .lst (M.W.map .int))]) v d _, (Ev.refl _ _).set mP _, List.length_set .., Dj.set (l1 := [(m, .lst [.ref M.p0, .ref M.p1, .ref M.p2, .ref M.p3, .ref M.p4]), (M.p0, .lst (M.O.map .int)), (M.p1, .lst (M.W.map .int))]) d _, rfl⟩
theorem mtH (v : V h (mcells m M)) (d : Dj (mcells m M)) (hd : List Int) : MT m h M (h.set M.p4 (.lst (hd.map .int))) { M with hd := hd } :=
  ⟨V.set (l1 := [(m, .lst [.ref M.p0, .ref M.p1, .ref M.p2, .ref M.p3, .ref M.p4]), (M.p0, .lst (M.O.map .int)), (M.p1, .lst (M.W.map .int)), (M.p2, .lst (M.op.map .bl)), (M.p3, .lst (M.sp.map fun x => .ref x.pos))]) v d _, (Ev.refl _ _).set mH _, List.length_set ..,
    Dj.set (l1 := [(m, .lst [.ref M.p0, .ref M.p1, .ref M.p2, .ref M.p3, .ref M.p4]), (M.p0, .lst (M.O.map .int)), (M.p1, .lst (M.W.map .int)), (M.p2, .lst (M.op.map .bl)), (M.p3, .lst (M.sp.map fun x => .ref x.pos))]) d _, rfl⟩
theorem mtX (v : V h (mcells m M)) (d : Dj (mcells m M)) {s1 s2 : List Sp} {x : Sp} (e : M.sp = s1 ++ x :: s2) (a b : Nat) : MT m h M (h.set x.pos (.lst [.int a, .int b])) { M with sp := s1 ++ ⟨x.pos, a, b⟩ :: s2 } := by
  have ec : ∀ y : Sp, y.pos = x.pos → mcells m { M with sp := s1 ++ y :: s2 } = ((m, MO.lst [.ref M.p0, .ref M.p1, .ref M.p2, .ref M.p3, .ref M.p4]) :: (M.p0, .lst (M.O.map .int)) :: (M.p1, .lst (M.W.map .int)) :: (M.p2, .lst (M.op.map .bl)) :: (M.p3, .lst (M.sp.map fun x => .ref x.pos)) :: (M.p4, .lst (M.hd.map .int)) :: s1.map spO) ++ (x.pos, .lst [.int y.nxt, .int y.left]) :: s2.map spO := fun y hy => by
    unfold mcells
    rw [e]
    simp [spO, hy]
  have e0 := ec x rfl
  rw [← e, show mcells m { M with sp := M.sp } = mcells m M from rfl] at e0
  have v1 := v
  have d1 := d
  rw [e0] at v1 d1
  have e1 := ec ⟨x.pos, a, b⟩ rfl
  refine ⟨by rw [e1]; exact v1.set d1 _, (Ev.refl _ _).set (mX (by rw [e]; simp)) _, List.length_set .., by rw [e1]; exact d1.set _, ?_⟩
  rw [e1, e0]
  simp
theorem fRange_nat {n : Nat} {h : MH} (hn : n ≤ 16777216) : fRange1 [.int (n : Int)] h = .ok ⟨(List.range n).map fun (i : Nat) => .int i, fun _ => True⟩ h := by
  rw [fRange1_eq (by omega) (by omega), Int.toNat_natCast]
def win (O : List Int) (w i : Nat) : Prop := (O.drop i).take w = List.replicate w (-1)
instance {O : List Int} {w i : Nat} : Decidable (win O w i) := inferInstanceAs (Decidable (_ = _))
def rowAt (O : List Int) (w q : Nat) : Prop := (q < O.length ∧ win O w q ∧ ∀ j < q, ¬ win O w j) ∨ (q = O.length ∧ ∀ j < O.length, ¬ win O w j)
theorem eqDs_ints : ∀ a b : List Int, eqDs (a.map .int) (b.map .int) = decide (a = b)
  | [], [] => rfl
  | [], _ :: _ => rfl
  | _ :: _, [] => rfl
  | x :: a, y :: b => by
    show ((x == y) && eqDs (a.map .int) (b.map .int)) = _
    rw [eqDs_ints a b]
    by_cases z : x = y <;> by_cases z2 : a = b <;> simp [z, z2]
theorem opEq_ints {a b : List Int} {h : MH} : opEq (.rol (a.map .int)) (.rol (b.map .int)) h = .ok (.bl (decide (a = b))) h := by
  rw [opEq_is (d := .rol (a.map .int)) (e := .rol (b.map .int)) (n := 1) (m := 1) (by decide) (by decide) (eok_ints 0 a) (eok_ints 0 b)]
  show R.ok (D.bl (eqDs (a.map .int) (b.map .int))) h = _
  rw [eqDs_ints]
theorem const_lc {src : MI} {i : Nat} {elt : ME} {vs : List Nat} {δ : MS} {h : MH} {c : Int} {w : Nat} (es : src δ h = .ok ⟨(List.range w).map fun (i : Nat) => .int i, fun _ => True⟩ h) (hw : w < 16777216) (he : ∀ δ k, elt δ k = .ok (.int c) k) :
    mLc src (mgName i) mYes elt vs δ h = .ok (.rol ((List.replicate w c).map .int)) h := by
  have := mLc_map (src := src) (tgt := mgName i) (elt := elt) (vs := vs) (δ := δ) (h := h) (fun _ => .int c) es (fun _ => trivial) (by simpa using hw) (fun x _ => ⟨_, rfl, fun k => he _ _⟩) (fun _ _ => rfl)
  rw [this]
  have e : ((List.range w).map fun (i : Nat) => D.int i).map (fun _ => D.int c) = (List.replicate w c).map D.int := by
    rw [List.map_replicate, List.eq_replicate_iff]
    simp
  show R.ok (D.rol (((List.range w).map fun (i : Nat) => D.int i).map fun _ => D.int c)) h = _
  rw [e]
theorem sl_lst {n : Nat} {ds : List D} {h : MH} {i j : Nat} (e : lst? h n = some ds) (hij : i ≤ j) : opSl (.ref n) (some (i : Int)) (some (j : Int)) h = .ok (.rol ((ds.drop i).take (j - i))) h := by
  unfold opSl slG
  simp only [lstD_ref, e, Option.map_some]
  unfold MM.cutD
  rw [HT.sIx_nat, HT.sIx_nat]
  congr 2
  rcases Nat.le_total i ds.length with q | q
  · rw [Nat.min_eq_left q]
    rcases Nat.le_total j ds.length with q2 | q2
    · rw [Nat.min_eq_left q2]
    · rw [Nat.min_eq_right q2, List.take_of_length_le (by simp), List.take_of_length_le (by simp; omega)]
  · rw [Nat.min_eq_right q, List.drop_eq_nil_of_le q, List.drop_eq_nil_of_le (Nat.le_refl _), List.take_nil, List.take_nil]
def moreO (M : Mod) (q w : Nat) : List Int := if q < M.O.length then M.O else M.O ++ List.replicate w (-1)
def moreW (M : Mod) (q w : Nat) : List Int := if q < M.O.length then M.W else M.W ++ List.replicate (8 * w) 0
theorem grow_loop {F : Option D} : ∀ (w : Nat) (ls : List Nat) (h : MH) (M : Mod) (x4 x5 : Option D), ls.length = w → V h (mcells m M) → Dj (mcells m M) → M.O.length + w ≤ 200000 → M.W.length + 8 * w ≤ 1600000 → ∃ k y4, MM.forM (fun _ => True) (mgName 4) b__law_pages_2 (ls.map fun (i : Nat) => D.int i) [some (.ref m), x5, some (.ref M.p0), F, x4, none] h =
      .ok (.next [some (.ref m), x5, some (.ref M.p0), F, y4, none]) k ∧ MT m h M k { M with O := M.O ++ List.replicate w (-1), W := M.W ++ List.replicate (8 * w) 0 }
  | 0, [], h, M, x4, x5, _, v, d, _, _ => ⟨h, x4, by rw [List.map_nil, MM.forM, if_pos trivial], by simpa using MT.refl v d⟩
  | w + 1, i :: ls, h, M, x4, x5, hl, v, d, ho, hw => by
    have t1 := mtO v d (M.O ++ [-1])
    have t2 := mtW t1.v t1.dj (M.W ++ List.replicate 8 0)
    have t12 := t1.trans t2
    obtain ⟨k, y4, e3, t3⟩ := grow_loop w ls _ _ (some (.int i)) x5 (by simpa using hl) t12.v t12.dj (by simp; omega) (by simp; omega)
    have tt := t12.trans t3
    refine ⟨k, y4, ?_, ?_⟩
    · have ap : fAppend (.ref M.p0) [.int (-1)] h = .ok .non (h.set M.p0 (.lst ((M.O ++ [-1]).map .int))) := by
        unfold fAppend
        simp only [yO v]
        rw [if_pos (by simp; omega)]
        simp
      have ex : fExtend (.ref M.p1) [.rol ((List.replicate 8 (0 : Int)).map .int)] (h.set M.p0 (.lst ((M.O ++ [-1]).map .int))) = .ok .non ((h.set M.p0 (.lst ((M.O ++ [-1]).map .int))).set M.p1 (.lst ((M.W ++ List.replicate 8 0).map .int))) := by
        unfold fExtend
        simp only [yW t1.v, seqG_rol]
        rw [if_pos (by simp; omega)]
        simp
      have v1 := t1.v
      have bd : b__law_pages_2 [some (.ref m), x5, some (.ref M.p0), F, some (.int i), none] h = .ok (.next [some (.ref m), x5, some (.ref M.p0), F, some (.int i), none]) ((h.set M.p0 (.lst ((M.O ++ [-1]).map .int))).set M.p1 (.lst ((M.W ++ List.replicate 8 0).map .int))) := by
        have lc : mLc (mCallI fRange1 (mCons (mC (.int 8)) (mNil))) (mgName 5) (mYes) (mC (.int 0)) [5] [some (.ref m), x5, some (.ref M.p0), F, some (.int i), none] (h.set M.p0 (.lst ((M.O ++ [-1]).map .int))) = .ok (.rol ((List.replicate 8 (0 : Int)).map .int)) (h.set M.p0 (.lst ((M.O ++ [-1]).map .int))) :=
          const_lc (by
            have := fRange_nat (n := 8) (h := h.set M.p0 (.lst ((M.O ++ [-1]).map .int))) (by decide)
            simp only [mCallI_eq, mCons_eq, mC_eq, mNil_eq, R.bnd_ok]
            exact this) (by decide) (fun _ _ => rfl)
        have hx1 := x1 v1
        have ty0 := isTy_ref (T := "list") (yO v)
        have ty1 := isTy_ref (T := "list") (yW v1)
        unfold b__law_pages_2
        generalize (List.replicate 8 (0 : Int)).map D.int = Z8 at lc ex
        generalize (h.set M.p0 (.lst ((M.O ++ [-1]).map .int))).set M.p1 (.lst ((M.W ++ List.replicate 8 0).map .int)) = H2 at ex ⊢
        generalize h.set M.p0 (.lst ((M.O ++ [-1]).map .int)) = H1 at ap lc ex hx1 ty1
        simp [ty0, ap, hx1, ty1, lc, ex]
      rw [List.map_cons, forM_next trivial (show mgName 4 (.int (i : Int)) [some (.ref m), x5, some (.ref M.p0), F, x4, none] = some [some (.ref m), x5, some (.ref M.p0), F, some (.int i), none] from rfl) bd]
      exact e3
    · have e1 : M.O ++ [-1] ++ List.replicate w (-1) = M.O ++ List.replicate (w + 1) (-1) := by rw [List.append_assoc, List.replicate_succ]; rfl
      have e2 : M.W ++ List.replicate 8 0 ++ List.replicate (8 * w) 0 = M.W ++ List.replicate (8 * (w + 1)) (0 : Int) := by
        rw [List.append_assoc, List.replicate_append_replicate, show 8 + 8 * w = 8 * (w + 1) by omega]
      simp only [e1, e2] at tt
      exact tt
end
end K51
namespace K51
open PySem PySem.Spec PyProof.Rows L2 MM
section
variable {h k k' g : MH} {m : Nat} {M M' : Mod}
theorem pages_ok (v : V h (mcells m M)) (d : Dj (mcells m M)) {w : Nat} (hw1 : 1 ≤ w) (hw : w ≤ 1000) (ho : M.O.length ≤ 100000) (h8 : M.W.length = 8 * M.O.length) :
    ∃ q k, m__law_pages [.ref m, .int w] h = .ok (.int (q : Nat)) k ∧ rowAt M.O w q ∧ MT m h M k { M with O := moreO M q w, W := moreW M q w } := by
  have r1 : fRange1 [.int (M.O.length : Int)] h = .ok ⟨(List.range M.O.length).map fun (i : Nat) => .int i, fun _ => True⟩ h := fRange_nat (by omega)
  have lp : TmS (MM.forM (fun _ => True) (mgName 3) b__law_pages_1 ((List.range M.O.length).map fun (i : Nat) => D.int i) [some (.ref m), some (.int w), some (.ref M.p0), none, none, none] h)
      (fun f h' => h' = h ∧ (match f with | .next δ => (∀ j < M.O.length, ¬ win M.O w j) ∧ ∃ a, δ = [some (.ref m), some (.int w), some (.ref M.p0), a, none, none] | .ret d => ∃ q, (q < M.O.length ∧ win M.O w q ∧ ∀ j < q, ¬ win M.O w j) ∧ d = .int (q : Nat) | _ => False)) (fun _ _ _ _ => False) := by
    refine TmS_rangeR (fun i δ h' => h' = h ∧ (∀ j < i, ¬ win M.O w j) ∧ ∃ a, δ = [some (.ref m), some (.int w), some (.ref M.p0), a, none, none]) ?_ (fun δ h' ⟨e, n, a, ed⟩ => ⟨e, n, a, ed⟩) ⟨rfl, by omega, none, rfl⟩
    rintro i δ h' hi ⟨rfl, nw, a, rfl⟩
    refine ⟨[some (.ref m), some (.int w), some (.ref M.p0), some (.int i), none, none], rfl, ?_⟩
    have s1 := sl_lst (i := i) (j := i + w) (yO v) (by omega)
    rw [show i + w - i = w by omega, show ((M.O.map D.int).drop i).take w = ((M.O.drop i).take w).map .int by rw [← List.map_drop, ← List.map_take]] at s1
    have lc : mLc (mCallI fRange1 (mCons (mVar 1) (mNil))) (mgName 4) (mYes) (mUn opNeg (mC (.int 1))) [4] [some (.ref m), some (.int w), some (.ref M.p0), some (.int i), none, none] h' = .ok (.rol ((List.replicate w (-1 : Int)).map .int)) h' :=
      const_lc (by
        have := fRange_nat (n := w) (h := h') (by omega)
        rw [mCallI_eq, mCons_eq, mVar_eq (show _ = some (some (D.int w)) from rfl), R.bnd_ok, mNil_eq, R.bnd_ok, R.bnd_ok]
        exact this) (by omega) (fun _ _ => rfl)
    have eq := opEq_ints (a := (M.O.drop i).take w) (b := List.replicate w (-1)) (h := h')
    have pm : ∀ k, mPart (mOp opAddL (mVar 3) (mVar 1)) [some (.ref m), some (.int w), some (.ref M.p0), some (.int i), none, none] k = .ok (some ((i + w : Nat) : Int)) k := fun _ => rfl
    by_cases z : win M.O w i
    · have : b__law_pages_1 [some (.ref m), some (.int w), some (.ref M.p0), some (.int i), none, none] h' = .ok (.ret (.int i)) h' := by
        rw [decide_eq_true (show (M.O.drop i).take w = List.replicate w (-1) from z)] at eq
        unfold b__law_pages_1
        generalize ((M.O.drop i).take w).map D.int = A at s1 eq
        generalize (List.replicate w (-1 : Int)).map D.int = B at lc eq
        generalize ((i + w : Nat) : Int) = q at pm s1
        rw [mIfS_eq, mB_eq, mOp_eq, mSl_eq, mVar_eq (show _ = some (some (D.ref M.p0)) from rfl), R.bnd_ok, mPart_V (i := (i : Int)) rfl, R.bnd_ok, pm, R.bnd_ok, s1, R.bnd_ok, lc, R.bnd_ok, eq, R.bnd_ok, isB_eq, R.st_ok]
        rfl
      rw [this]
      exact ⟨rfl, i, ⟨hi, z, nw⟩, rfl⟩
    · have : b__law_pages_1 [some (.ref m), some (.int w), some (.ref M.p0), some (.int i), none, none] h' = .ok (.next [some (.ref m), some (.int w), some (.ref M.p0), some (.int i), none, none]) h' := by
        rw [decide_eq_false (show ¬ (M.O.drop i).take w = List.replicate w (-1) from z)] at eq
        unfold b__law_pages_1
        generalize ((M.O.drop i).take w).map D.int = A at s1 eq
        generalize (List.replicate w (-1 : Int)).map D.int = B at lc eq
        generalize ((i + w : Nat) : Int) = q at pm s1
        rw [mIfS_eq, mB_eq, mOp_eq, mSl_eq, mVar_eq (show _ = some (some (D.ref M.p0)) from rfl), R.bnd_ok, mPart_V (i := (i : Int)) rfl, R.bnd_ok, pm, R.bnd_ok, s1, R.bnd_ok, lc, R.bnd_ok, eq, R.bnd_ok, isB_eq, R.st_ok]
        rfl
      rw [this]
      refine ⟨rfl, fun j hj => ?_, _, rfl⟩
      rcases Nat.lt_or_ge j i with q | q
      · exact nw j q
      · have : j = i := by omega
        rw [this]; exact z
  obtain ⟨f, h', e4, rfl, q⟩ := lp.exN
  have n0 := nO v
  have hx0 := x0 v
  have fo : mFor (mCallI fRange1 (mCons (mCall fLen (mCons (mVar 2) (mNil))) (mNil))) (mgName 3) (b__law_pages_1) [some (.ref m), some (.int w), some (.ref M.p0), none, none, none] h' = .ok f h' := by
    rw [mFor_eq, mCallI_eq, mCons_eq, mCall_eq, mCons_eq, mVar_eq (show _ = some (some (D.ref M.p0)) from rfl), R.bnd_ok, mNil_eq, R.bnd_ok, R.bnd_ok, n0, R.bnd_ok, mNil_eq, R.bnd_ok, R.bnd_ok, r1, R.st_ok, e4]
  have s0 : mSet 2 (mOp opIx (mVar 0) (mC (.int 0))) [some (.ref m), some (.int w), none, none, none, none] h' = .ok (.next [some (.ref m), some (.int w), some (.ref M.p0), none, none, none]) h' := by simp [hx0]
  cases f with
  | next δ =>
    obtain ⟨nw, a, rfl⟩ := q
    obtain ⟨k, y4, e5, t5⟩ := grow_loop (F := some (.int M.O.length)) w (List.range w) h' M none (some (.int w)) (by simp) v d (by omega) (by omega)
    refine ⟨M.O.length, k, ?_, .inr ⟨rfl, nw⟩, ?_⟩
    · refine t5.ret0 rfl ?_ rfl
      show b__law_pages [some (.ref m), some (.int w), none, none, none, none] h' = _
      unfold b__law_pages
      have s1 : mSet 3 (mCall fLen (mCons (mVar 2) (mNil))) [some (.ref m), some (.int w), some (.ref M.p0), a, none, none] h' = .ok (.next [some (.ref m), some (.int w), some (.ref M.p0), some (.int M.O.length), none, none]) h' := by simp [n0]
      have r2 : fRange1 [.int (w : Int)] h' = .ok ⟨(List.range w).map fun (i : Nat) => .int i, fun _ => True⟩ h' := fRange_nat (by omega)
      have fo2 : mFor (mCallI fRange1 (mCons (mVar 1) (mNil))) (mgName 4) (b__law_pages_2) [some (.ref m), some (.int w), some (.ref M.p0), some (.int M.O.length), none, none] h' = .ok (.next [some (.ref m), some (.int w), some (.ref M.p0), some (.int M.O.length), y4, none]) k := by
        rw [mFor_eq, mCallI_eq, mCons_eq, mVar_eq (show _ = some (some (D.int w)) from rfl), R.bnd_ok, mNil_eq, R.bnd_ok, R.bnd_ok, r2, R.st_ok, e5]
      rw [mSeq_eq, s0, SR.seq_next, mSeq_eq, fo, SR.seq_next, mSeq_eq, s1, SR.seq_next, mSeq_eq, fo2, SR.seq_next]
      simp
    · have e1 : moreO M M.O.length w = M.O ++ List.replicate w (-1) := if_neg (by omega)
      have e2 : moreW M M.O.length w = M.W ++ List.replicate (8 * w) 0 := if_neg (by omega)
      rw [e1, e2]; exact t5
  | ret dd =>
    obtain ⟨q, hq, rfl⟩ := q
    refine ⟨q, h', ?_, .inl hq, ?_⟩
    · refine (MT.refl v d).ret0 rfl ?_ rfl
      show b__law_pages [some (.ref m), some (.int w), none, none, none, none] h' = _
      unfold b__law_pages
      rw [mSeq_eq, s0, SR.seq_next, mSeq_eq, fo]
      rfl
    · have e1 : moreO M q w = M.O := if_pos hq.1
      have e2 : moreW M q w = M.W := if_pos hq.1
      rw [e1, e2]; exact MT.refl v d
  | brk _ => exact q.elim
  | cont _ => exact q.elim
def putO (O : List Int) (q w : Nat) (x : Int) : List Int := O.take q ++ List.replicate w x ++ O.drop (q + w)
theorem putO_get {O : List Int} {q w : Nat} {x : Int} (h : q + w ≤ O.length) (i : Nat) : (putO O q w x)[i]? = if i < q then O[i]? else if i < q + w then some x else O[i]? := by
  unfold putO
  have hq : (O.take q).length = q := by rw [List.length_take]; omega
  by_cases z1 : i < q
  · rw [if_pos z1, List.append_assoc, List.getElem?_append_left (by omega), List.getElem?_take_of_lt z1]
  · rw [if_neg z1, List.append_assoc, List.getElem?_append_right (by omega), hq]
    by_cases z2 : i < q + w
    · rw [if_pos z2, List.getElem?_append_left (by rw [List.length_replicate]; omega), List.getElem?_replicate, if_pos (by omega)]
    · rw [if_neg z2, List.getElem?_append_right (by rw [List.length_replicate]; omega), List.length_replicate, List.getElem?_drop]
      congr 1
      omega
theorem putO_len {O : List Int} {q w : Nat} {x : Int} (h : q + w ≤ O.length) : (putO O q w x).length = O.length := by
  unfold putO
  simp
  omega
theorem putO_step {O : List Int} {q w : Nat} {x : Int} (h : q + w < O.length) : (putO O q w x).set (q + w) x = putO O q (w + 1) x := by
  apply List.ext_getElem?
  intro i
  rw [List.getElem?_set, putO_get (by omega), putO_get (by omega), putO_len (by omega)]
  by_cases z : q + w = i
  · subst z
    rw [if_pos rfl, if_pos h, if_neg (by omega), if_pos (by omega)]
  · rw [if_neg z]
    by_cases z1 : i < q
    · rw [if_pos z1, if_pos z1]
    · rw [if_neg z1, if_neg z1]
      by_cases z2 : i < q + w
      · rw [if_pos z2, if_pos (by omega)]
      · rw [if_neg z2, if_neg (by omega)]
theorem own_loop {F : Option D} {x : Int} {q W : Nat} : ∀ (r : Nat) (h : MH) (M : Mod) (w : Nat) (x4 : Option D), w + r = W → V h (mcells m M) → Dj (mcells m M) → q + W ≤ M.O.length → M.O.length ≤ 200000 → ∃ k y4, MM.forM (fun _ => True) (mgName 4) b__law_pages_for_1 (((List.range W).drop w).map fun (i : Nat) => D.int i) [some (.ref m), some (.int x), F, some (.int q), x4] h =
      .ok (.next [some (.ref m), some (.int x), F, some (.int q), y4]) k ∧ MT m h M k { M with O := (List.range' (q + w) r).foldl (fun O i => O.set i x) M.O }
  | 0, h, M, w, x4, hr, v, d, _, _ => ⟨h, x4, by rw [List.drop_eq_nil_of_le (by simp; omega), List.map_nil, MM.forM, if_pos trivial], MT.refl v d⟩
  | r + 1, h, M, w, x4, hr, v, d, ho, hz => by
    have t1 := mtO v d (M.O.set (q + w) x)
    obtain ⟨k, y4, e2, t2⟩ := own_loop (F := F) (x := x) (q := q) (W := W) r _ _ (w + 1) (some (.int w)) (by omega) t1.v t1.dj (by simp; omega) (by simp; omega)
    refine ⟨k, y4, ?_, t1.trans t2⟩
    have dr : (List.range W).drop w = w :: (List.range W).drop (w + 1) := by
      rw [List.drop_eq_getElem_cons (by simp; omega)]; simp
    have hx0 := x0 v
    have st := set_ok (d := .int x) (i := ((q : Int) + (w : Int))) (yO v) (by omega) (by simp; omega) (by simp; omega)
    rw [show (M.O.map D.int).set ((q : Int) + (w : Int)).toNat (.int x) = (M.O.set (q + w) x).map .int by rw [List.map_set, show ((q : Int) + (w : Int)).toNat = q + w by omega]] at st
    have bd : b__law_pages_for_1 [some (.ref m), some (.int x), F, some (.int q), some (.int w)] h = .ok (.next [some (.ref m), some (.int x), F, some (.int q), some (.int w)]) (h.set M.p0 (.lst ((M.O.set (q + w) x).map .int))) := by
      unfold b__law_pages_for_1
      generalize h.set M.p0 (.lst ((M.O.set (q + w) x).map .int)) = H1 at st ⊢
      simp [mSetIx2, hx0, st]
    rw [dr, List.map_cons, forM_next trivial (show mgName 4 (.int (w : Int)) [some (.ref m), some (.int x), F, some (.int q), x4] = some [some (.ref m), some (.int x), F, some (.int q), some (.int w)] from rfl) bd]
    exact e2
theorem putO_fold {x : Int} {O : List Int} {q : Nat} : ∀ (r w : Nat), q + w + r ≤ O.length → (List.range' (q + w) r).foldl (fun O i => O.set i x) (putO O q w x) = putO O q (w + r) x
  | 0, w, _ => rfl
  | r + 1, w, h => by
    rw [List.range'_succ, List.foldl_cons, putO_step (by omega)]
    have := putO_fold (x := x) (O := O) (q := q) r (w + 1) (by omega)
    rw [show q + (w + 1) = q + w + 1 by omega] at this
    rw [this]
    congr 1
    omega
theorem putO_zero {x : Int} {O : List Int} {q : Nat} : putO O q 0 x = O := by simp [putO]
theorem pagesFor_ok (v : V h (mcells m M)) (d : Dj (mcells m M)) {w : Nat} {x : Int} (hw1 : 1 ≤ w) (hw : w ≤ 1000) (ho : M.O.length ≤ 100000) (h8 : M.W.length = 8 * M.O.length) (fit : ∀ q, win M.O w q → q + w ≤ M.O.length) :
    ∃ q k, m__law_pages_for [.ref m, .int x, .int w] h = .ok (.int (8 * (q : Nat))) k ∧ rowAt M.O w q ∧ MT m h M k { M with O := putO (moreO M q w) q w x, W := moreW M q w } := by
  obtain ⟨q, k1, e1, rq, t1⟩ := pages_ok v d hw1 hw ho h8
  have ql : q + w ≤ (moreO M q w).length := by
    unfold moreO
    rcases rq with ⟨a, b, _⟩ | ⟨a, _⟩
    · rw [if_pos a]; exact fit q b
    · rw [if_neg (by omega)]; simp; omega
  have ml : (moreO M q w).length ≤ 200000 := by
    unfold moreO
    split
    · omega
    · rw [List.length_append, List.length_replicate]; omega
  obtain ⟨k, y4, e2, t2⟩ := own_loop (F := some (.int w)) (x := x) (q := q) (W := w) w k1 _ 0 none (by omega) t1.v t1.dj ql ml
  have pf := putO_fold (x := x) (O := moreO M q w) (q := q) w 0 (by omega)
  rw [putO_zero, Nat.zero_add, Nat.add_zero] at pf
  have tt : MT m h M k { M with O := putO (moreO M q w) q w x, W := moreW M q w } := by
    rw [← pf]
    exact t1.trans t2
  refine ⟨q, k, tt.ret0 rfl ?_ rfl, rq, tt⟩
  show b__law_pages_for [some (.ref m), some (.int x), some (.int w), none, none] h = _
  unfold b__law_pages_for
  rw [List.drop_zero] at e2
  have s1 : mSet 3 (mCall m__law_pages (mCons (mVar 0) (mCons (mVar 2) (mNil)))) [some (.ref m), some (.int x), some (.int w), none, none] h = .ok (.next [some (.ref m), some (.int x), some (.int w), some (.int q), none]) k1 := by simp [e1]
  have r2 : fRange1 [.int (w : Int)] k1 = .ok ⟨(List.range w).map fun (i : Nat) => .int i, fun _ => True⟩ k1 := fRange_nat (by omega)
  have fo : mFor (mCallI fRange1 (mCons (mVar 2) (mNil))) (mgName 4) (b__law_pages_for_1) [some (.ref m), some (.int x), some (.int w), some (.int q), none] k1 = .ok (.next [some (.ref m), some (.int x), some (.int w), some (.int q), y4]) k := by
    rw [mFor_eq, mCallI_eq, mCons_eq, mVar_eq (show _ = some (some (D.int w)) from rfl), R.bnd_ok, mNil_eq, R.bnd_ok, R.bnd_ok, r2, R.st_ok, e2]
  have mu : ∀ k, opMul (.int 8) (.int q) k = .ok (.int (8 * q)) k := fun k => by
    have lg : (8 : Int).natAbs.log2 + (q : Int).natAbs.log2 < 1000000 := by
      have : (q : Int).natAbs.log2 ≤ q := by
        have := Nat.log2_le_self (q : Int).natAbs
        omega
      have : (8 : Int).natAbs.log2 = 3 := by decide
      omega
    exact opMul_int lg
  rw [mSeq_eq, s1, SR.seq_next, mSeq_eq, fo, SR.seq_next]
  simp only [mRet_eq, mOp_eq, mC_eq, R.bnd_ok]
  rw [mVar_eq (show _ = some (some (D.int q)) from rfl), R.bnd_ok, mu, R.st_ok]
end
end K51
namespace K51
open PySem PySem.Spec PyProof.Rows L2 MM
section
variable {h k k' g : MH} {m : Nat} {M M' : Mod}
theorem fRange2_eq {i n : Int} {h : MH} (a : (-(2 ^ 62) ≤ i ∧ i < 2 ^ 62) ∧ -(2 ^ 62) ≤ n ∧ n < 2 ^ 62) : fRange2 [.int i, .int n] h = .ok ⟨(List.range (n - i).toNat).map fun (k : Nat) => .int (i + k), fun _ => True⟩ h := if_pos a
theorem blank_put {W : List Int} {a w : Nat} : blankL W a w = putO W a w 0 := rfl
def hdP (M : Mod) (j w : Nat) : List Int := M.hd.set j (M.hd.getD j 0 + w)
theorem hd_step (v : V h (mcells m M)) (o : MOk m M) {j w : Nat} (hj : j < M.op.length) {y3 y4 y5 : Option D} : mSetIx2 (mOp opAddL (mOp opIx (mOp opIx (mVar 0) (mC (.int 4))) (mVar 1)) (mVar 2)) (mOp opIx (mVar 0) (mC (.int 4))) (mVar 1) [some (.ref m), some (.int j), some (.int w), y3, y4, y5] h =
    .ok (.next [some (.ref m), some (.int j), some (.int w), y3, y4, y5]) (h.set M.p4 (.lst ((hdP M j w).map .int))) := by
  have hl := o.lh
  have lo := o.lo
  have hx := x4 v
  have lt : j < M.hd.length := by omega
  have ix : opIx (.ref M.p4) (.int j) h = .ok (.int (M.hd.getD j 0)) h := opIx_of (by
    rw [ixG_ref, yH v, Option.bind_some]
    exact atI_ok (by omega) (by rw [Int.toNat_natCast, List.getElem?_map, List.getD_eq_getElem?_getD, List.getElem?_eq_getElem lt]; rfl))
  have st := set_ok (d := .int (M.hd.getD j 0 + w)) (i := (j : Int)) (yH v) (by omega) (by simp; omega) (by simp; omega)
  rw [show (M.hd.map D.int).set ((j : Int)).toNat (.int (M.hd.getD j 0 + w)) = (hdP M j w).map .int by unfold hdP; rw [List.map_set, Int.toNat_natCast]] at st
  generalize h.set M.p4 (.lst ((hdP M j w).map .int)) = H1 at st ⊢
  generalize M.hd.getD j 0 = y at ix st
  simp [mSetIx2, hx, ix, st]
theorem zero_loop {A Bq Cq : Option D} {a W : Nat} : ∀ (r : Nat) (h : MH) (M : Mod) (w : Nat) (x5 : Option D), w + r = W → V h (mcells m M) → Dj (mcells m M) → a + W ≤ M.W.length → M.W.length ≤ 1600000 → ∃ k y5, MM.forM (fun _ => True) (mgName 5) b__law_cell_1 (((List.range W).drop w).map fun (i : Nat) => D.int ((a : Int) + (i : Int))) [some (.ref m), A, Bq, Cq, some (.ref M.p1), x5] h =
      .ok (.next [some (.ref m), A, Bq, Cq, some (.ref M.p1), y5]) k ∧ MT m h M k { M with W := (List.range' (a + w) r).foldl (fun O i => O.set i 0) M.W }
  | 0, h, M, w, x5, hr, v, d, _, _ => ⟨h, x5, by rw [List.drop_eq_nil_of_le (by simp; omega), List.map_nil, MM.forM, if_pos trivial], MT.refl v d⟩
  | r + 1, h, M, w, x5, hr, v, d, ho, hz => by
    have t1 := mtW v d (M.W.set (a + w) 0)
    obtain ⟨k, y5, e2, t2⟩ := zero_loop (A := A) (Bq := Bq) (Cq := Cq) (a := a) (W := W) r _ _ (w + 1) (some (.int ((a : Int) + (w : Int)))) (by omega) t1.v t1.dj (by simp; omega) (by simp; omega)
    refine ⟨k, y5, ?_, t1.trans t2⟩
    have dr : (List.range W).drop w = w :: (List.range W).drop (w + 1) := by
      rw [List.drop_eq_getElem_cons (by simp; omega)]; simp
    have st := set_ok (d := .int 0) (i := ((a : Int) + (w : Int))) (yW v) (by omega) (by simp; omega) (by simp; omega)
    rw [show (M.W.map D.int).set ((a : Int) + (w : Int)).toNat (.int 0) = (M.W.set (a + w) 0).map .int by rw [List.map_set, show ((a : Int) + (w : Int)).toNat = a + w by omega]] at st
    have bd : b__law_cell_1 [some (.ref m), A, Bq, Cq, some (.ref M.p1), some (.int ((a : Int) + (w : Int)))] h = .ok (.next [some (.ref m), A, Bq, Cq, some (.ref M.p1), some (.int ((a : Int) + (w : Int)))]) (h.set M.p1 (.lst ((M.W.set (a + w) 0).map .int))) := by
      unfold b__law_cell_1
      generalize h.set M.p1 (.lst ((M.W.set (a + w) 0).map .int)) = H1 at st ⊢
      simp [mSetIx2, st]
    rw [dr, List.map_cons, forM_next trivial (show mgName 5 (.int ((a : Int) + (w : Int))) [some (.ref m), A, Bq, Cq, some (.ref M.p1), x5] = some [some (.ref m), A, Bq, Cq, some (.ref M.p1), some (.int ((a : Int) + (w : Int)))] from rfl) bd]
    exact e2
theorem cell_tail (v : V h (mcells m M)) (d : Dj (mcells m M)) {s1 s2 : List Sp} {x : Sp} (e : M.sp = s1 ++ x :: s2) {j w : Nat} {x4 x5 : Option D} (hl : w ≤ x.left) (fit : x.nxt + w ≤ M.W.length) (hz : M.W.length ≤ 1600000) :
    ∃ k, MT m h M k { M with sp := s1 ++ ⟨x.pos, x.nxt + w, x.left - w⟩ :: s2, W := blankL M.W x.nxt w } ∧
    mSeq (mSetIx2 (mOp opAddL (mOp opIx (mVar 3) (mC (.int 0))) (mVar 2)) (mVar 3) (mC (.int 0))) (mSeq (mSetIx2 (mOp opSub (mOp opIx (mVar 3) (mC (.int 1))) (mVar 2)) (mVar 3) (mC (.int 1))) (mSeq (mSet 4 (mOp opIx (mVar 0) (mC (.int 1)))) (mSeq (mFor (mCallI fRange2 (mCons (mOp opSub (mOp opIx (mVar 3) (mC (.int 0))) (mVar 2)) (mCons (mOp opIx (mVar 3) (mC (.int 0))) (mNil)))) (mgName 5) (b__law_cell_1)) (mRet (mOp opSub (mOp opIx (mVar 3) (mC (.int 0))) (mVar 2))))))
      [some (.ref m), some (.int j), some (.int w), some (.ref x.pos), x4, x5] h = .ok (.ret (.int x.nxt)) k := by
  have t1 := mtX v d e (x.nxt + w) x.left
  have t2 := mtX t1.v t1.dj (s1 := s1) (s2 := s2) (x := ⟨x.pos, x.nxt + w, x.left⟩) rfl (x.nxt + w) (x.left - w)
  have t12 := t1.trans t2
  obtain ⟨k, y5, e3, t3⟩ := zero_loop (A := some (.int j)) (Bq := some (.int w)) (Cq := some (.ref x.pos)) (a := x.nxt) (W := w) w _ _ 0 x5 (by omega) t12.v t12.dj fit hz
  have pf := putO_fold (x := 0) (O := M.W) (q := x.nxt) w 0 (by omega)
  rw [putO_zero, Nat.zero_add, Nat.add_zero] at pf
  have tt : MT m h M k { M with sp := s1 ++ ⟨x.pos, x.nxt + w, x.left - w⟩ :: s2, W := blankL M.W x.nxt w } := by
    rw [blank_put, ← pf]
    exact t12.trans t3
  refine ⟨k, tt, ?_⟩
  have xs : x ∈ M.sp := by rw [e]; simp
  have l0 : lst? h x.pos = some [.int x.nxt, .int x.left] := lst?_of (v.at' (mX xs))
  have l1 : lst? (h.set x.pos (.lst [.int ((x.nxt + w : Nat) : Int), .int x.left])) x.pos = some [.int ((x.nxt + w : Nat) : Int), .int x.left] := lst?_of (t1.v.at' (mX (x := ⟨x.pos, x.nxt + w, x.left⟩) (by show _ ∈ s1 ++ _ :: s2; simp)))
  have l2 : lst? ((h.set x.pos (.lst [.int ((x.nxt + w : Nat) : Int), .int x.left])).set x.pos (.lst [.int ((x.nxt + w : Nat) : Int), .int ((x.left - w : Nat) : Int)])) x.pos = some [.int ((x.nxt + w : Nat) : Int), .int ((x.left - w : Nat) : Int)] := lst?_of (t2.v.at' (mX (x := ⟨x.pos, x.nxt + w, x.left - w⟩) (by show _ ∈ s1 ++ _ :: s2; simp)))
  have i0 : opIx (.ref x.pos) (.int 0) h = .ok (.int x.nxt) h := opIx_of (by rw [ixG_ref, l0]; rfl)
  have i1 : opIx (.ref x.pos) (.int 1) (h.set x.pos (.lst [.int ((x.nxt + w : Nat) : Int), .int x.left])) = .ok (.int x.left) (h.set x.pos (.lst [.int ((x.nxt + w : Nat) : Int), .int x.left])) := opIx_of (by rw [ixG_ref, l1]; rfl)
  have st0 : setG2 (.ref x.pos) (.int 0) (.int ((x.nxt + w : Nat) : Int)) h = some (h.set x.pos (.lst [.int ((x.nxt + w : Nat) : Int), .int x.left])) := set_ok l0 (by decide) (by simp) (by simp)
  have st1 : setG2 (.ref x.pos) (.int 1) (.int ((x.left - w : Nat) : Int)) (h.set x.pos (.lst [.int ((x.nxt + w : Nat) : Int), .int x.left])) = some ((h.set x.pos (.lst [.int ((x.nxt + w : Nat) : Int), .int x.left])).set x.pos (.lst [.int ((x.nxt + w : Nat) : Int), .int ((x.left - w : Nat) : Int)])) := set_ok l1 (by decide) (by simp) (by simp)
  have hx1 := x1 t12.v
  have v3 := t3.v
  have l3 : lst? k x.pos = some [.int ((x.nxt + w : Nat) : Int), .int ((x.left - w : Nat) : Int)] := lst?_of (tt.v.at' (mX (x := ⟨x.pos, x.nxt + w, x.left - w⟩) (by show _ ∈ s1 ++ _ :: s2; simp)))
  rw [List.drop_zero] at e3
  have e3' : MM.forM (fun _ => True) (mgName 5) b__law_cell_1 ((List.range w).map fun (i : Nat) => D.int ((x.nxt : Int) + (i : Int))) [some (.ref m), some (.int j), some (.int w), some (.ref x.pos), some (.ref M.p1), x5] ((h.set x.pos (.lst [.int ((x.nxt + w : Nat) : Int), .int x.left])).set x.pos (.lst [.int ((x.nxt + w : Nat) : Int), .int ((x.left - w : Nat) : Int)])) = .ok (.next [some (.ref m), some (.int j), some (.int w), some (.ref x.pos), some (.ref M.p1), y5]) k := e3
  have hx1' : opIx (.ref m) (.int 1) ((h.set x.pos (.lst [.int ((x.nxt + w : Nat) : Int), .int x.left])).set x.pos (.lst [.int ((x.nxt + w : Nat) : Int), .int ((x.left - w : Nat) : Int)])) = .ok (.ref M.p1) ((h.set x.pos (.lst [.int ((x.nxt + w : Nat) : Int), .int x.left])).set x.pos (.lst [.int ((x.nxt + w : Nat) : Int), .int ((x.left - w : Nat) : Int)])) := hx1
  generalize (h.set x.pos (.lst [.int ((x.nxt + w : Nat) : Int), .int x.left])).set x.pos (.lst [.int ((x.nxt + w : Nat) : Int), .int ((x.left - w : Nat) : Int)]) = H2 at l2 st1 e3' hx1'
  generalize h.set x.pos (.lst [.int ((x.nxt + w : Nat) : Int), .int x.left]) = H1 at i1 st0 st1
  have i2 : opIx (.ref x.pos) (.int 0) H2 = .ok (.int ((x.nxt + w : Nat) : Int)) H2 := opIx_of (by rw [ixG_ref, l2]; rfl)
  have i3 : opIx (.ref x.pos) (.int 0) k = .ok (.int ((x.nxt + w : Nat) : Int)) k := opIx_of (by rw [ixG_ref, l3]; rfl)
  have su : (((x.nxt + w : Nat) : Int) - (w : Int)) = (x.nxt : Int) := by omega
  have r2 : fRange2 [.int (x.nxt : Int), .int ((x.nxt + w : Nat) : Int)] H2 = .ok ⟨(List.range w).map fun (i : Nat) => .int ((x.nxt : Int) + (i : Int)), fun _ => True⟩ H2 := by
    have hw : (((x.nxt + w : Nat) : Int) - (x.nxt : Int)).toNat = w := by omega
    rw [fRange2_eq (by omega), hw]
  have b1 : mSetIx2 (mOp opAddL (mOp opIx (mVar 3) (mC (.int 0))) (mVar 2)) (mVar 3) (mC (.int 0)) [some (.ref m), some (.int j), some (.int w), some (.ref x.pos), x4, x5] h = .ok (.next [some (.ref m), some (.int j), some (.int w), some (.ref x.pos), x4, x5]) H1 := by
    rw [show ((x.nxt + w : Nat) : Int) = (x.nxt : Int) + (w : Int) by omega] at st0
    simp [mSetIx2, i0, st0]
  have b2 : mSetIx2 (mOp opSub (mOp opIx (mVar 3) (mC (.int 1))) (mVar 2)) (mVar 3) (mC (.int 1)) [some (.ref m), some (.int j), some (.int w), some (.ref x.pos), x4, x5] H1 = .ok (.next [some (.ref m), some (.int j), some (.int w), some (.ref x.pos), x4, x5]) H2 := by
    rw [show ((x.left - w : Nat) : Int) = (x.left : Int) - (w : Int) by omega] at st1
    simp [mSetIx2, i1, st1]
  have b3 : mSet 4 (mOp opIx (mVar 0) (mC (.int 1))) [some (.ref m), some (.int j), some (.int w), some (.ref x.pos), x4, x5] H2 = .ok (.next [some (.ref m), some (.int j), some (.int w), some (.ref x.pos), some (.ref M.p1), x5]) H2 := by simp [hx1']
  have b4 : mFor (mCallI fRange2 (mCons (mOp opSub (mOp opIx (mVar 3) (mC (.int 0))) (mVar 2)) (mCons (mOp opIx (mVar 3) (mC (.int 0))) (mNil)))) (mgName 5) (b__law_cell_1) [some (.ref m), some (.int j), some (.int w), some (.ref x.pos), some (.ref M.p1), x5] H2 = .ok (.next [some (.ref m), some (.int j), some (.int w), some (.ref x.pos), some (.ref M.p1), y5]) k := by
    rw [mFor_eq, mCallI_eq, mCons_eq, mOp_eq, mOp_eq, mVar_eq (show _ = some (some (D.ref x.pos)) from rfl), R.bnd_ok, mC_eq, R.bnd_ok, i2, R.bnd_ok, mVar_eq (show _ = some (some (D.int w)) from rfl), R.bnd_ok, opSub_int, su, R.bnd_ok, mCons_eq, mOp_eq, mVar_eq (show _ = some (some (D.ref x.pos)) from rfl), R.bnd_ok, mC_eq, R.bnd_ok, i2, R.bnd_ok, mNil_eq, R.bnd_ok, R.bnd_ok, R.bnd_ok, r2, R.st_ok, e3']
  rw [mSeq_eq, b1, SR.seq_next, mSeq_eq, b2, SR.seq_next, mSeq_eq, b3, SR.seq_next, mSeq_eq, b4, SR.seq_next]
  rw [mRet_eq, mOp_eq, mOp_eq, mVar_eq (show _ = some (some (D.ref x.pos)) from rfl), R.bnd_ok, mC_eq, R.bnd_ok, i3, R.bnd_ok, mVar_eq (show _ = some (some (D.int w)) from rfl), R.bnd_ok, opSub_int, su, R.st_ok]
end
end K51
namespace K51
open PySem PySem.Spec PyProof.Rows L2 MM
section
variable {h k k' g : MH} {m : Nat} {M M' : Mod}
theorem win_fit {O : List Int} {w q : Nat} (h1 : 1 ≤ w) (h : win O w q) : q + w ≤ O.length := by
  have := congrArg List.length (show (O.drop q).take w = _ from h)
  simp at this
  omega
theorem spot_step (v : V h (mcells m M)) (o : MOk m M) {s1 s2 : List Sp} {x : Sp} (e : M.sp = s1 ++ x :: s2) {w : Nat} {y3 y4 y5 : Option D} : mSet 3 (mOp opIx (mOp opIx (mVar 0) (mC (.int 3))) (mVar 1)) [some (.ref m), some (.int s1.length), some (.int w), y3, y4, y5] h = .ok (.next [some (.ref m), some (.int s1.length), some (.int w), some (.ref x.pos), y4, y5]) h := by
  have hx := x3 v
  have ix : opIx (.ref M.p3) (.int s1.length) h = .ok (.ref x.pos) h := opIx_of (by
    rw [ixG_ref, yS v, Option.bind_some]
    exact atI_ok (by omega) (by rw [Int.toNat_natCast, List.getElem?_map, e, List.getElem?_append_right (Nat.le_refl _)]; simp))
  simp [hx, ix]
theorem hd_ok (v : V h (mcells m M)) (o : MOk m M) {l : List Int} (hl : l.length = M.hd.length) : MT m h M (h.set M.p4 (.lst (l.map .int))) { M with hd := l } ∧ MOk m { M with hd := l } :=
  ⟨mtH v o.dj l, ⟨(mtH v o.dj l).dj, o.w8, o.sm, o.ls, by show l.length = _; rw [hl]; exact o.lh, o.lo⟩⟩
theorem hdP_len {j w : Nat} : (hdP M j w).length = M.hd.length := by unfold hdP; rw [List.length_set]
theorem lawCell_big (v : V h (mcells m M)) (o : MOk m M) {s1 s2 : List Sp} {x : Sp} (e : M.sp = s1 ++ x :: s2) {w : Nat} (hw : 8 < w) (hw2 : w ≤ 1000) :
    ∃ q k, m__law_cell [.ref m, .int s1.length, .int w] h = .ok (.int (8 * (q : Nat))) k ∧ rowAt M.O ((w + 7) / 8) q ∧ MT m h M k { M with hd := hdP M s1.length w, O := putO (moreO M q ((w + 7) / 8)) q ((w + 7) / 8) s1.length, W := moreW M q ((w + 7) / 8) } := by
  have hj : s1.length < M.op.length := by rw [← o.ls, e]; simp
  obtain ⟨t1, o1⟩ := hd_ok v o (hdP_len (M := M) (j := s1.length) (w := w))
  obtain ⟨q, k, e2, rq, t2⟩ := pagesFor_ok (x := (s1.length : Int)) (w := (w + 7) / 8) t1.v t1.dj (by omega) (by omega) o.sm o.w8 fun q => win_fit (by omega)
  have tt := t1.trans t2
  refine ⟨q, k, tt.ret0 rfl ?_ rfl, rq, tt⟩
  show b__law_cell [some (.ref m), some (.int s1.length), some (.int w), none, none, none] h = _
  unfold b__law_cell
  have b0 := spot_step v o e (w := w) (y3 := none) (y4 := none) (y5 := none)
  have b1 := hd_step v o (w := w) hj (y3 := some (.ref x.pos)) (y4 := none) (y5 := none)
  have dv : ∀ k, opDiv (.int ((w : Int) + 7)) (.int 8) k = .ok (.int (((w + 7) / 8 : Nat) : Int)) k := fun k => by
    rw [opDiv_int (by decide) (by decide)]
    congr 2
  have gt : (8 : Int) < (w : Int) := by omega
  rw [mSeq_eq, b0, SR.seq_next, mSeq_eq, b1, SR.seq_next, mSeq_eq]
  generalize h.set M.p4 (.lst ((hdP M s1.length w).map .int)) = H1 at e2
  generalize (((w + 7) / 8 : Nat) : Int) = z at e2 dv
  simp [gt, dv, e2]
theorem row_le {O : List Int} {w q : Nat} (h : rowAt O w q) : q ≤ O.length := by rcases h with h | h <;> omega
theorem lawCell_new (v : V h (mcells m M)) (o : MOk m M) {s1 s2 : List Sp} {x : Sp} (e : M.sp = s1 ++ x :: s2) {w : Nat} (hw1 : 1 ≤ w) (hw : w ≤ 8) (hx : x.left < w) :
    ∃ q k, m__law_cell [.ref m, .int s1.length, .int w] h = .ok (.int ((8 * q : Nat) : Int)) k ∧ rowAt M.O 1 q ∧ MT m h M k { M with hd := hdP M s1.length w, O := putO (moreO M q 1) q 1 s1.length, sp := s1 ++ ⟨x.pos, 8 * q + w, 8 - w⟩ :: s2, W := blankL (moreW M q 1) (8 * q) w } := by
  have hj : s1.length < M.op.length := by rw [← o.ls, e]; simp
  obtain ⟨t1, o1⟩ := hd_ok v o (hdP_len (M := M) (j := s1.length) (w := w))
  obtain ⟨q, k2, e2, rq, t2⟩ := pagesFor_ok (x := (s1.length : Int)) (w := 1) t1.v t1.dj (by decide) (by decide) o.sm o.w8 fun q => win_fit (by decide)
  have ql : q ≤ M.O.length := row_le rq
  have w8 := o.w8
  have sm := o.sm
  have t3 := mtX t2.v t2.dj (s1 := s1) (s2 := s2) (x := x) e (8 * q) x.left
  have t4 := mtX t3.v t3.dj (s1 := s1) (s2 := s2) (x := ⟨x.pos, 8 * q, x.left⟩) rfl (8 * q) 8
  have mW : (moreW M q 1).length = if q < M.O.length then M.W.length else M.W.length + 8 := by
    unfold moreW; split <;> simp
  have mW' : (moreW { M with hd := hdP M s1.length w } q 1) = moreW M q 1 := rfl
  obtain ⟨k, t5, e5⟩ := cell_tail (j := s1.length) (x4 := none) (x5 := none) t4.v t4.dj (s1 := s1) (s2 := s2) (x := ⟨x.pos, 8 * q, 8⟩) rfl (w := w) hw (by
    show 8 * q + w ≤ (moreW M q 1).length
    rw [mW]; split <;> omega) (by
    show (moreW M q 1).length ≤ _
    rw [mW]; split <;> omega)
  have tt := (((t1.trans t2).trans t3).trans t4).trans t5
  refine ⟨q, k, tt.ret0 rfl ?_ rfl, rq, tt⟩
  show b__law_cell [some (.ref m), some (.int s1.length), some (.int w), none, none, none] h = _
  unfold b__law_cell
  have b0 := spot_step v o e (w := w) (y3 := none) (y4 := none) (y5 := none)
  have b1 := hd_step v o (w := w) hj (y3 := some (.ref x.pos)) (y4 := none) (y5 := none)
  have gt : ¬ (8 : Int) < (w : Int) := by omega
  have lt : (x.left : Int) < (w : Int) := by omega
  have xs : x ∈ M.sp := by rw [e]; simp
  have li : ∀ (H : MH) (Q : Mod), V H (mcells m Q) → x ∈ Q.sp → lst? H x.pos = some [.int x.nxt, .int x.left] := fun H Q vq hq => lst?_of (vq.at' (mX hq))
  have l1 := li _ _ t1.v xs
  have l2 := li _ _ t2.v xs
  have l3 : lst? (k2.set x.pos (.lst [.int ((8 * q : Nat) : Int), .int x.left])) x.pos = some [.int ((8 * q : Nat) : Int), .int x.left] := lst?_of (t3.v.at' (mX (x := ⟨x.pos, 8 * q, x.left⟩) (by show _ ∈ s1 ++ _ :: s2; simp)))
  have st2 : setG2 (.ref x.pos) (.int 0) (.int ((8 * q : Nat) : Int)) k2 = some (k2.set x.pos (.lst [.int ((8 * q : Nat) : Int), .int x.left])) := set_ok l2 (by decide) (by simp) (by simp)
  have st3 : setG2 (.ref x.pos) (.int 1) (.int 8) (k2.set x.pos (.lst [.int ((8 * q : Nat) : Int), .int x.left])) = some ((k2.set x.pos (.lst [.int ((8 * q : Nat) : Int), .int x.left])).set x.pos (.lst [.int ((8 * q : Nat) : Int), .int 8])) := set_ok l3 (by decide) (by simp) (by simp)
  have e5' := e5
  rw [mSeq_eq, b0, SR.seq_next, mSeq_eq, b1, SR.seq_next, mSeq_eq]
  have g1 : mIfS (mB (mOp opGt (mVar 2) (mC (.int 8)))) (mRet (mCall m__law_pages_for (mCons (mVar 0) (mCons (mVar 1) (mCons (mOp opDiv (mOp opAddL (mVar 2) (mC (.int 7))) (mC (.int 8))) (mNil)))))) (mNext) [some (.ref m), some (.int s1.length), some (.int w), some (.ref x.pos), none, none] (h.set M.p4 (.lst ((hdP M s1.length w).map .int))) = .ok (.next [some (.ref m), some (.int s1.length), some (.int w), some (.ref x.pos), none, none]) (h.set M.p4 (.lst ((hdP M s1.length w).map .int))) := by
    simp [gt]
  rw [g1, SR.seq_next, mSeq_eq]
  have ix1 : opIx (.ref x.pos) (.int 1) (h.set M.p4 (.lst ((hdP M s1.length w).map .int))) = .ok (.int x.left) (h.set M.p4 (.lst ((hdP M s1.length w).map .int))) := opIx_of (by rw [ixG_ref, l1]; rfl)
  have e2' : m__law_pages_for [.ref m, .int s1.length, .int 1] (h.set M.p4 (.lst ((hdP M s1.length w).map .int))) = .ok (.int ((8 * q : Nat) : Int)) k2 := by
    have := e2
    rw [show (8 * (q : Int)) = ((8 * q : Nat) : Int) by omega] at this
    exact this
  have g2 : mIfS (mB (mOp opLt (mOp opIx (mVar 3) (mC (.int 1))) (mVar 2))) (mSeq (mSetIx2 (mCall m__law_pages_for (mCons (mVar 0) (mCons (mVar 1) (mCons (mC (.int 1)) (mNil))))) (mVar 3) (mC (.int 0))) (mSetIx2 (mC (.int 8)) (mVar 3) (mC (.int 1)))) (mNext) [some (.ref m), some (.int s1.length), some (.int w), some (.ref x.pos), none, none] (h.set M.p4 (.lst ((hdP M s1.length w).map .int))) = .ok (.next [some (.ref m), some (.int s1.length), some (.int w), some (.ref x.pos), none, none]) ((k2.set x.pos (.lst [.int ((8 * q : Nat) : Int), .int x.left])).set x.pos (.lst [.int ((8 * q : Nat) : Int), .int 8])) := by
    generalize h.set M.p4 (.lst ((hdP M s1.length w).map .int)) = H1 at ix1 e2' ⊢
    generalize (k2.set x.pos (.lst [.int ((8 * q : Nat) : Int), .int x.left])).set x.pos (.lst [.int ((8 * q : Nat) : Int), .int 8]) = H3 at st3 ⊢
    generalize k2.set x.pos (.lst [.int ((8 * q : Nat) : Int), .int x.left]) = H2 at st2 st3
    generalize ((8 * q : Nat) : Int) = z at e2' st2
    simp [ix1, lt, mSetIx2, e2', st2, st3]
  rw [g2, SR.seq_next]
  exact e5
theorem lawCell_old (v : V h (mcells m M)) (o : MOk m M) {s1 s2 : List Sp} {x : Sp} (e : M.sp = s1 ++ x :: s2) {w : Nat} (hw : w ≤ 8) (hx : w ≤ x.left) (fit : x.nxt + w ≤ M.W.length) :
    ∃ k, m__law_cell [.ref m, .int s1.length, .int w] h = .ok (.int x.nxt) k ∧ MT m h M k { M with hd := hdP M s1.length w, sp := s1 ++ ⟨x.pos, x.nxt + w, x.left - w⟩ :: s2, W := blankL M.W x.nxt w } := by
  have hj : s1.length < M.op.length := by rw [← o.ls, e]; simp
  have w8 := o.w8
  have sm := o.sm
  obtain ⟨t1, o1⟩ := hd_ok v o (hdP_len (M := M) (j := s1.length) (w := w))
  obtain ⟨k, t5, e5⟩ := cell_tail (j := s1.length) (x4 := none) (x5 := none) t1.v t1.dj (s1 := s1) (s2 := s2) (x := x) e (w := w) hx fit (by show M.W.length ≤ _; omega)
  have tt := t1.trans t5
  refine ⟨k, tt.ret0 rfl ?_ rfl, tt⟩
  show b__law_cell [some (.ref m), some (.int s1.length), some (.int w), none, none, none] h = _
  unfold b__law_cell
  have b0 := spot_step v o e (w := w) (y3 := none) (y4 := none) (y5 := none)
  have b1 := hd_step v o (w := w) hj (y3 := some (.ref x.pos)) (y4 := none) (y5 := none)
  have gt : ¬ (8 : Int) < (w : Int) := by omega
  have lt : ¬ (x.left : Int) < (w : Int) := by omega
  have xs : x ∈ M.sp := by rw [e]; simp
  have l1 : lst? (h.set M.p4 (.lst ((hdP M s1.length w).map .int))) x.pos = some [.int x.nxt, .int x.left] := lst?_of (t1.v.at' (mX (x := x) xs))
  have ix1 : opIx (.ref x.pos) (.int 1) (h.set M.p4 (.lst ((hdP M s1.length w).map .int))) = .ok (.int x.left) (h.set M.p4 (.lst ((hdP M s1.length w).map .int))) := opIx_of (by rw [ixG_ref, l1]; rfl)
  rw [mSeq_eq, b0, SR.seq_next, mSeq_eq, b1, SR.seq_next, mSeq_eq]
  have g1 : mIfS (mB (mOp opGt (mVar 2) (mC (.int 8)))) (mRet (mCall m__law_pages_for (mCons (mVar 0) (mCons (mVar 1) (mCons (mOp opDiv (mOp opAddL (mVar 2) (mC (.int 7))) (mC (.int 8))) (mNil)))))) (mNext) [some (.ref m), some (.int s1.length), some (.int w), some (.ref x.pos), none, none] (h.set M.p4 (.lst ((hdP M s1.length w).map .int))) = .ok (.next [some (.ref m), some (.int s1.length), some (.int w), some (.ref x.pos), none, none]) (h.set M.p4 (.lst ((hdP M s1.length w).map .int))) := by
    simp [gt]
  rw [g1, SR.seq_next, mSeq_eq]
  have g2 : mIfS (mB (mOp opLt (mOp opIx (mVar 3) (mC (.int 1))) (mVar 2))) (mSeq (mSetIx2 (mCall m__law_pages_for (mCons (mVar 0) (mCons (mVar 1) (mCons (mC (.int 1)) (mNil))))) (mVar 3) (mC (.int 0))) (mSetIx2 (mC (.int 8)) (mVar 3) (mC (.int 1)))) (mNext) [some (.ref m), some (.int s1.length), some (.int w), some (.ref x.pos), none, none] (h.set M.p4 (.lst ((hdP M s1.length w).map .int))) = .ok (.next [some (.ref m), some (.int s1.length), some (.int w), some (.ref x.pos), none, none]) (h.set M.p4 (.lst ((hdP M s1.length w).map .int))) := by
    generalize h.set M.p4 (.lst ((hdP M s1.length w).map .int)) = H1 at ix1 ⊢
    simp [ix1, lt]
  rw [g2, SR.seq_next]
  exact e5
end
end K51
namespace K51
open PySem PySem.Spec PyProof.Rows L2 MM
theorem win_iff {O : List Int} {m j : Nat} : win O m j ↔ ∀ i < m, O[j + i]? = some (-1) := by
  unfold win
  constructor
  · intro h i hi
    have := congrArg (fun l => l[i]?) h
    simp only [List.getElem?_take, if_pos hi, List.getElem?_drop, List.getElem?_replicate] at this
    exact this
  · intro h
    apply List.ext_getElem?
    intro i
    rw [List.getElem?_take, List.getElem?_replicate]
    by_cases hi : i < m
    · rw [if_pos hi, if_pos hi, List.getElem?_drop]; exact h i hi
    · rw [if_neg hi, if_neg hi]
theorem scan_spec {O : List Int} {m : Nat} (hm : 1 ≤ m) : ∀ (rest : List Int) (p w : Nat), O.drop p = rest → w ≤ p → w < m → (∀ i, p - w ≤ i → i < p → O[i]? = some (-1)) → (w < p → O[p - w - 1]? ≠ some (-1)) → (∀ j, j + m ≤ p → ¬ win O m j) →
    match scan m rest p w with | some q => q + m ≤ O.length ∧ win O m q ∧ ∀ j < q, ¬ win O m j | none => ∀ j, ¬ win O m j
  | [], p, w, e, hw, hwm, run, top, nw => by
    show ∀ j, ¬ win O m j
    intro j hj
    have := win_fit hm hj
    have : O.length ≤ p := List.drop_eq_nil_iff.mp e
    exact nw j (by omega) hj
  | o :: r, p, w, e, hw, hwm, run, top, nw => by
    obtain ⟨e1, e2, e3⟩ := drop_cons_iff e
    rw [scan_cons]
    by_cases z : o = -1
    · subst z
      simp only [if_true]
      by_cases z2 : w + 1 = m
      · rw [if_pos z2]
        show _ ∧ _ ∧ _
        refine ⟨by omega, win_iff.mpr fun i hi => ?_, fun j hj => nw j (by omega)⟩
        by_cases z3 : p + 1 - m + i = p
        · rw [z3]; exact e1
        · exact run _ (by omega) (by omega)
      · rw [if_neg z2]
        refine scan_spec hm r (p + 1) (w + 1) e2 (by omega) (by omega) (fun i h1 h2 => ?_) (fun h => ?_) (fun j hj hwn => ?_)
        · by_cases z3 : i = p
          · rw [z3]; exact e1
          · exact run i (by omega) (by omega)
        · rw [show p + 1 - (w + 1) - 1 = p - w - 1 by omega]; exact top (by omega)
        · by_cases z3 : j + m ≤ p
          · exact nw j z3 hwn
          · have h1 := win_iff.mp hwn (p - w - 1 - j) (by omega)
            rw [show j + (p - w - 1 - j) = p - w - 1 by omega] at h1
            exact top (by omega) h1
    · simp only [z, if_false]
      rw [if_neg (by omega)]
      refine scan_spec hm r (p + 1) 0 e2 (by omega) (by omega) (fun i h1 h2 => by omega) (fun _ h => ?_) (fun j hj hwn => ?_)
      · rw [show p + 1 - 0 - 1 = p by omega, e1] at h
        exact z (Option.some.inj h)
      · by_cases z3 : j + m ≤ p
        · exact nw j z3 hwn
        · have h1 := win_iff.mp hwn (p - j) (by omega)
          rw [show j + (p - j) = p by omega, e1] at h1
          exact z (Option.some.inj h1)
theorem win_count {O : List Int} {m j : Nat} (h : win O m j) : m ≤ O.count (-1) := by
  have h1 : ((O.drop j).take m).count (-1) = m := by
    rw [show (O.drop j).take m = List.replicate m (-1) from h, List.count_replicate_self]
  have h2 : List.Sublist ((O.drop j).take m) O := (List.take_sublist ..).trans (List.drop_sublist ..)
  have := h2.count_le (a := (-1 : Int))
  omega
theorem first_row {s : Sto} {m : Nat} (hm : 1 ≤ m) (hf : s.fr = (s.O.count (-1) : Nat)) : rowAt s.O m (firstP s m) := by
  unfold firstP
  by_cases z : s.fr < m
  · rw [if_pos z]
    refine .inr ⟨rfl, fun j _ hj => ?_⟩
    have := win_count hj
    omega
  · rw [if_neg z]
    have := scan_spec (O := s.O) hm s.O 0 0 rfl (Nat.le_refl _) (by omega) (fun i _ h => by omega) (fun h => by omega) (fun j hj => by omega)
    cases e : scan m s.O 0 0 with
    | none =>
      rw [e] at this
      exact .inr ⟨rfl, fun j _ => this j⟩
    | some q =>
      rw [e] at this
      obtain ⟨a, b, c⟩ := this
      exact .inl ⟨by show q < _; omega, b, c⟩
theorem row_unique {O : List Int} {m p q : Nat} (a : rowAt O m p) (b : rowAt O m q) : p = q := by
  rcases a with ⟨a1, a2, a3⟩ | ⟨a1, a2⟩ <;> rcases b with ⟨b1, b2, b3⟩ | ⟨b1, b2⟩
  · rcases Nat.lt_trichotomy p q with z | z | z
    · exact absurd a2 (b3 p z)
    · exact z
    · exact absurd b2 (a3 q z)
  · exact absurd a2 (b2 p a1)
  · exact absurd b2 (a2 q b1)
  · omega
structure Sim (s : Sto) (M : Mod) : Prop where
  O : s.O = M.O
  bg : s.bg = M.op.length
  ks : ∀ r ∈ s.rs, M.op[r.key]? = some true
  all : ∀ j : Nat, M.op[j]? = some true → ∃ r ∈ s.rs, r.key = j
  reg : ∀ r ∈ s.rs, ∃ x, M.sp[r.key]? = some x ∧ x.nxt = r.behind ∧ x.left = (8 - r.behind % 8) % 8 ∧ M.hd[r.key]? = some r.words
  pg : ∀ r ∈ s.rs, r.pages.Nodup ∧ ∀ p : Nat, p ∈ r.pages ↔ s.O[p]? = some (r.key : Int)
  be : ∀ r ∈ s.rs, r.behind ≤ 8 * s.O.length ∧ (r.behind % 8 ≠ 0 → s.O[r.behind / 8]? = some (r.key : Int))
  own : ∀ (p : Nat) (o : Int), s.O[p]? = some o → o = -1 ∨ ∃ r ∈ s.rs, (r.key : Int) = o
  fr : s.fr = (s.O.count (-1) : Nat)
  tot : s.tot = (s.rs.map (·.words)).sum
theorem need_left {r : Rg} {x : Sp} {w : Nat} (h : x.left = (8 - r.behind % 8) % 8) : (-(r.behind : Int)) % 8 < w ↔ x.left < w := by omega
theorem count_put {O : List Int} {q w : Nat} {x : Int} (hx : x ≠ -1) (hw : win O w q) : (putO O q w x).count (-1) + w = O.count (-1) := by
  have e : O = O.take q ++ (O.drop q).take w ++ O.drop (q + w) := by
    rw [List.append_assoc, ← List.drop_drop, List.take_append_drop, List.take_append_drop]
  have e2 : O.count (-1) = (O.take q).count (-1) + w + (O.drop (q + w)).count (-1) := by
    conv => lhs; rw [e]
    rw [List.count_append, List.count_append, show (O.drop q).take w = List.replicate w (-1) from hw, List.count_replicate_self]
  unfold putO
  rw [List.count_append, List.count_append, List.count_replicate]
  have : (x == -1) = false := by simpa using hx
  rw [this]
  simp
  omega
end K51
namespace K51
open PySem PySem.Spec PyProof.Rows L2 MM
section
variable {n : Nat} {s : Sto} {M : Mod} {r1 r2 : List Rg} {r : Rg}
theorem Sim.W (h : Sim s M) (a b : List Int) : Sim { s with W := a } { M with W := b } := ⟨h.O, h.bg, h.ks, h.all, h.reg, h.pg, h.be, h.own, h.fr, h.tot⟩
theorem key_ne (ks : (s.rs.map (·.key)).Nodup) (e : s.rs = r1 ++ r :: r2) : ∀ y ∈ r1 ++ r2, y.key ≠ r.key := fun y hy z => by
  rw [e, List.map_append, List.map_cons, List.nodup_append, List.nodup_cons] at ks
  obtain ⟨q1, ⟨q2, q3⟩, q4⟩ := ks
  rcases List.mem_append.mp hy with hy | hy
  · exact q4 y.key (List.mem_map_of_mem hy) r.key (by simp) z
  · exact q2 (z ▸ List.mem_map_of_mem hy)
theorem mem_split (e : s.rs = r1 ++ r :: r2) {y : Rg} : y ∈ s.rs ↔ y = r ∨ y ∈ r1 ++ r2 := by
  rw [e]
  simp only [List.mem_append, List.mem_cons]
  constructor
  · rintro (h | h | h)
    · exact .inr (.inl h)
    · exact .inl h
    · exact .inr (.inr h)
  · rintro (h | h | h)
    · exact .inr (.inl h)
    · exact .inl h
    · exact .inr (.inr h)
theorem mem_new {y r' : Rg} : y ∈ r1 ++ r' :: r2 ↔ y = r' ∨ y ∈ r1 ++ r2 := mem_split (s := ⟨0, 0, 0, [], [], r1 ++ r' :: r2, 0, 0, 0, 0, 0, []⟩) rfl
theorem taken_put {s : Sto} {M : Mod} {r : Rg} {m : Nat} (ho : s.O = M.O) (hr : rowAt M.O m (firstP s m)) (hm : 1 ≤ m) : takenO s r m = putO (moreO M (firstP s m) m) (firstP s m) m r.key := by
  unfold takenO putO moreO
  rw [ho]
  rcases hr with ⟨a, _⟩ | ⟨a, _⟩
  · rw [if_pos a]
  · rw [if_neg (by omega), a]
    rw [List.take_of_length_le (Nat.le_refl _), List.drop_eq_nil_of_le (by omega), List.take_append_of_le_length (Nat.le_refl _), List.take_of_length_le (Nat.le_refl _), List.drop_eq_nil_of_le (by simp)]
theorem taken_get {s : Sto} {r : Rg} {m : Nat} (hr : rowAt s.O m (firstP s m)) (hm : 1 ≤ m) (i : Nat) : (takenO s r m)[i]? = if firstP s m ≤ i ∧ i < firstP s m + m then some (r.key : Int) else s.O[i]? := by
  have fit : firstP s m + m ≤ s.O.length ∨ firstP s m = s.O.length := by
    rcases hr with ⟨a, b, _⟩ | ⟨a, _⟩
    · exact .inl (win_fit hm b)
    · exact .inr a
  rcases fit with f | f
  · show (putO s.O (firstP s m) m r.key)[i]? = _
    rw [putO_get f]
    by_cases z1 : i < firstP s m
    · rw [if_pos z1, if_neg (by omega)]
    · rw [if_neg z1]
      by_cases z2 : i < firstP s m + m
      · rw [if_pos z2, if_pos (by omega)]
      · rw [if_neg z2, if_neg (by omega)]
  · unfold takenO
    rw [f, List.take_of_length_le (Nat.le_refl _), List.drop_eq_nil_of_le (by omega), List.append_nil]
    by_cases z1 : i < s.O.length
    · rw [List.getElem?_append_left z1, if_neg (by omega)]
    · rw [List.getElem?_append_right (by omega), List.getElem?_replicate]
      by_cases z2 : i < s.O.length + m
      · rw [if_pos (by omega), if_pos (by omega)]
      · rw [if_neg (by omega), if_neg (by omega), List.getElem?_eq_none (by omega)]
theorem row_free {s : Sto} {m i : Nat} (hr : rowAt s.O m (firstP s m)) (hi : firstP s m ≤ i ∧ i < firstP s m + m) : s.O[i]? = some (-1) ∨ s.O[i]? = none := by
  rcases hr with ⟨a, b, _⟩ | ⟨a, _⟩
  · have := win_iff.mp b (i - firstP s m) (by omega)
    rw [show firstP s m + (i - firstP s m) = i by omega] at this
    exact .inl this
  · exact .inr (List.getElem?_eq_none (by omega))
theorem Sim.take (h : Sim s M) (ks : (s.rs.map (·.key)).Nodup) (e : s.rs = r1 ++ r :: r2) {m : Nat} (hm : 1 ≤ m) (W' : List Int) :
    Sim (takeP s r1 r2 r m) { M with O := putO (moreO M (firstP s m) m) (firstP s m) m r.key, W := W' } := by
  have hr : rowAt s.O m (firstP s m) := first_row hm h.fr
  have hr' : rowAt M.O m (firstP s m) := h.O ▸ hr
  have te := taken_put (r := r) h.O hr' hm
  have tg := taken_get (r := r) hr hm
  have rm : r ∈ s.rs := (mem_split e).mpr (.inl rfl)
  have kn := key_ne ks e
  have oth : ∀ y ∈ r1 ++ r2, y ∈ s.rs := fun y hy => (mem_split e).mpr (.inr hy)
  have gO : (takeP s r1 r2 r m).O = takenO s r m := rfl
  have gR : (takeP s r1 r2 r m).rs = r1 ++ { r with pages := r.pages ++ (List.range m).map (firstP s m + ·) } :: r2 := rfl
  have mr : { r with pages := r.pages ++ (List.range m).map (firstP s m + ·) } ∈ (takeP s r1 r2 r m).rs := by rw [gR]; exact mem_new.mpr (.inl rfl)
  have gb : (takeP s r1 r2 r m).bg = s.bg := by show (growP s m).bg = _; unfold growP; split <;> rfl
  have gt : (takeP s r1 r2 r m).tot = s.tot := by show (growP s m).tot = _; unfold growP; split <;> rfl
  have gf : (takeP s r1 r2 r m).fr = if firstP s m = s.O.length then s.fr else s.fr - m := by show (growP s m).fr = _; unfold growP; split <;> rfl
  have lenT : s.O.length ≤ (takenO s r m).length := by rw [takenO_len s r hm]; split <;> omega
  refine ⟨by rw [gO, te], gb.trans h.bg, fun y hy => ?_, fun j hj => ?_, fun y hy => ?_, fun y hy => ?_, fun y hy => ?_, fun p o hp => ?_, ?_, ?_⟩
  · rw [gR, mem_new] at hy
    rcases hy with rfl | hy
    · exact h.ks r rm
    · exact h.ks y (oth y hy)
  · obtain ⟨y, hy, rfl⟩ := h.all j hj
    rcases (mem_split e).mp hy with rfl | hy
    · exact ⟨_, mr, rfl⟩
    · exact ⟨y, by rw [gR]; exact mem_new.mpr (.inr hy), rfl⟩
  · rw [gR, mem_new] at hy
    rcases hy with rfl | hy
    · exact h.reg r rm
    · exact h.reg y (oth y hy)
  · rw [gO]
    rw [gR, mem_new] at hy
    rcases hy with rfl | hy
    · obtain ⟨nd, iff⟩ := h.pg r rm
      refine ⟨?_, fun p => ?_⟩
      · show (r.pages ++ (List.range m).map (firstP s m + ·)).Nodup
        rw [List.nodup_append]
        refine ⟨nd, ?_, fun a ha b hb z => ?_⟩
        · refine List.Pairwise.map _ (fun a b hab => ?_) List.nodup_range
          omega
        · obtain ⟨i, hi, rfl⟩ := List.mem_map.mp hb
          have hi := List.mem_range.mp hi
          have h1 := (iff a).mp ha
          rw [z] at h1
          rcases row_free hr (i := firstP s m + i) (by omega) with q | q <;> rw [q] at h1
          · have := Option.some.inj h1; omega
          · cases h1
      · show p ∈ r.pages ++ (List.range m).map (firstP s m + ·) ↔ _
        rw [tg, List.mem_append, List.mem_map]
        by_cases z : firstP s m ≤ p ∧ p < firstP s m + m
        · rw [if_pos z]
          exact ⟨fun _ => rfl, fun _ => .inr ⟨p - firstP s m, List.mem_range.mpr (by omega), by omega⟩⟩
        · rw [if_neg z, ← iff p]
          refine ⟨fun q => ?_, .inl⟩
          rcases q with q | ⟨i, hi, rfl⟩
          · exact q
          · have := List.mem_range.mp hi
            omega
    · obtain ⟨nd, iff⟩ := h.pg y (oth y hy)
      refine ⟨nd, fun p => ?_⟩
      rw [tg]
      by_cases z : firstP s m ≤ p ∧ p < firstP s m + m
      · rw [if_pos z, iff p]
        have := kn y hy
        refine ⟨fun q => ?_, fun q => ?_⟩
        · rcases row_free hr z with q2 | q2 <;> rw [q2] at q
          · have := Option.some.inj q; omega
          · cases q
        · have := Option.some.inj q; omega
      · rw [if_neg z]; exact iff p
  · rw [gO]
    have old : ∀ y ∈ s.rs, y.behind ≤ 8 * (takenO s r m).length ∧ (y.behind % 8 ≠ 0 → (takenO s r m)[y.behind / 8]? = some (y.key : Int)) := fun y hy => by
      obtain ⟨a, b⟩ := h.be y hy
      refine ⟨by omega, fun q => ?_⟩
      have := b q
      rw [tg]
      by_cases z : firstP s m ≤ y.behind / 8 ∧ y.behind / 8 < firstP s m + m
      · rcases row_free hr z with q2 | q2 <;> rw [q2] at this
        · have := Option.some.inj this; omega
        · cases this
      · rw [if_neg z]; exact this
    rw [gR, mem_new] at hy
    rcases hy with rfl | hy
    · exact old r rm
    · exact old y (oth y hy)
  · rw [gO, tg] at hp
    by_cases z : firstP s m ≤ p ∧ p < firstP s m + m
    · rw [if_pos z] at hp
      exact .inr ⟨_, mr, Option.some.inj hp⟩
    · rw [if_neg z] at hp
      rcases h.own p o hp with q | ⟨y, hy, q⟩
      · exact .inl q
      · rcases (mem_split e).mp hy with rfl | hy
        · exact .inr ⟨_, mr, q⟩
        · exact .inr ⟨y, by rw [gR]; exact mem_new.mpr (.inr hy), q⟩
  · rw [gf, gO]
    rcases hr with ⟨a, b, _⟩ | ⟨a, _⟩
    · rw [if_neg (by omega), h.fr]
      have := count_put (x := (r.key : Int)) (by omega) b
      show _ = (((putO s.O (firstP s m) m r.key).count (-1) : Nat) : Int)
      omega
    · rw [if_pos a, h.fr]
      unfold takenO
      rw [a, List.take_of_length_le (Nat.le_refl _), List.drop_eq_nil_of_le (by omega), List.append_nil, List.count_append, List.count_replicate]
      have : ((r.key : Int) == -1) = false := beq_eq_false_iff_ne.mpr (by omega)
      rw [this]
      simp
  · rw [gt, gR, h.tot, e]
    simp
theorem Sim.spot (h : Sim s M) (ks : (s.rs.map (·.key)).Nodup) (e : s.rs = r1 ++ r :: r2) {s1 s2 : List Sp} {x : Sp} (e' : M.sp = s1 ++ x :: s2) (hk : s1.length = r.key) {b : Nat} (hb : b ≤ 8 * s.O.length) (hb2 : b % 8 ≠ 0 → s.O[b / 8]? = some (r.key : Int)) {l : Nat} (hl : l = (8 - b % 8) % 8) :
    Sim { s with rs := r1 ++ { r with behind := b } :: r2 } { M with sp := s1 ++ ⟨x.pos, b, l⟩ :: s2 } := by
  have kn := key_ne ks e
  have rm : r ∈ s.rs := (mem_split e).mpr (.inl rfl)
  have oth : ∀ y ∈ r1 ++ r2, y ∈ s.rs := fun y hy => (mem_split e).mpr (.inr hy)
  refine ⟨h.O, h.bg, fun y hy => ?_, fun j hj => ?_, fun y hy => ?_, fun y hy => ?_, fun y hy => ?_, fun p o hp => ?_, h.fr, ?_⟩
  · rcases mem_new.mp hy with rfl | hy
    · exact h.ks r rm
    · exact h.ks y (oth y hy)
  · obtain ⟨y, hy, rfl⟩ := h.all j hj
    rcases (mem_split e).mp hy with rfl | hy
    · exact ⟨_, mem_new.mpr (.inl rfl), rfl⟩
    · exact ⟨y, mem_new.mpr (.inr hy), rfl⟩
  · rcases mem_new.mp hy with rfl | hy
    · obtain ⟨x0, _, _, _, hw⟩ := h.reg r rm
      refine ⟨⟨x.pos, b, l⟩, ?_, rfl, hl, hw⟩
      show (s1 ++ ⟨x.pos, b, l⟩ :: s2)[r.key]? = _
      rw [← hk, List.getElem?_append_right (Nat.le_refl _)]
      simp
    · obtain ⟨x0, h1, h2, h3, h4⟩ := h.reg y (oth y hy)
      refine ⟨x0, ?_, h2, h3, h4⟩
      have := kn y hy
      rw [e'] at h1
      show (s1 ++ ⟨x.pos, b, l⟩ :: s2)[y.key]? = _
      by_cases z : y.key < s1.length
      · rw [List.getElem?_append_left z] at h1 ⊢; exact h1
      · rw [List.getElem?_append_right (by omega)] at h1 ⊢
        rw [show y.key - s1.length = (y.key - s1.length - 1) + 1 by omega, List.getElem?_cons_succ] at h1 ⊢
        exact h1
  · rcases mem_new.mp hy with rfl | hy
    · exact h.pg r rm
    · exact h.pg y (oth y hy)
  · rcases mem_new.mp hy with rfl | hy
    · exact ⟨hb, hb2⟩
    · exact h.be y (oth y hy)
  · rcases h.own p o hp with q | ⟨y, hy, q⟩
    · exact .inl q
    · rcases (mem_split e).mp hy with rfl | hy
      · exact .inr ⟨_, mem_new.mpr (.inl rfl), q⟩
      · exact .inr ⟨y, mem_new.mpr (.inr hy), q⟩
  · show s.tot = ((r1 ++ _ :: r2).map (·.words)).sum
    rw [h.tot, e]
    simp
theorem Sim.words (h : Sim s M) (ks : (s.rs.map (·.key)).Nodup) (e : s.rs = r1 ++ r :: r2) (w : Nat) : Sim { s with rs := r1 ++ { r with words := r.words + w } :: r2, tot := s.tot + w } { M with hd := hdP M r.key w } := by
  have kn := key_ne ks e
  have rm : r ∈ s.rs := (mem_split e).mpr (.inl rfl)
  have oth : ∀ y ∈ r1 ++ r2, y ∈ s.rs := fun y hy => (mem_split e).mpr (.inr hy)
  refine ⟨h.O, h.bg, fun y hy => ?_, fun j hj => ?_, fun y hy => ?_, fun y hy => ?_, fun y hy => ?_, fun p o hp => ?_, h.fr, ?_⟩
  · rcases mem_new.mp hy with rfl | hy
    · exact h.ks r rm
    · exact h.ks y (oth y hy)
  · obtain ⟨y, hy, rfl⟩ := h.all j hj
    rcases (mem_split e).mp hy with rfl | hy
    · exact ⟨_, mem_new.mpr (.inl rfl), rfl⟩
    · exact ⟨y, mem_new.mpr (.inr hy), rfl⟩
  · rcases mem_new.mp hy with rfl | hy
    · obtain ⟨x0, h1, h2, h3, hw⟩ := h.reg r rm
      refine ⟨x0, h1, h2, h3, ?_⟩
      show (M.hd.set r.key (M.hd.getD r.key 0 + w))[r.key]? = some (r.words + w)
      have lt : r.key < M.hd.length := (List.getElem?_eq_some_iff.mp hw).1
      rw [List.getElem?_set_self lt, List.getD_eq_getElem?_getD, hw]; rfl
    · obtain ⟨x0, h1, h2, h3, hw⟩ := h.reg y (oth y hy)
      refine ⟨x0, h1, h2, h3, ?_⟩
      show (M.hd.set r.key _)[y.key]? = _
      rw [List.getElem?_set_ne (fun z => kn y hy z.symm)]; exact hw
  · rcases mem_new.mp hy with rfl | hy
    · exact h.pg r rm
    · exact h.pg y (oth y hy)
  · rcases mem_new.mp hy with rfl | hy
    · exact h.be r rm
    · exact h.be y (oth y hy)
  · rcases h.own p o hp with q | ⟨y, hy, q⟩
    · exact .inl q
    · rcases (mem_split e).mp hy with rfl | hy
      · exact .inr ⟨_, mem_new.mpr (.inl rfl), q⟩
      · exact .inr ⟨y, mem_new.mpr (.inr hy), q⟩
  · show s.tot + (w : Int) = ((r1 ++ { r with words := r.words + w } :: r2).map (·.words)).sum
    rw [h.tot, e]
    simp
    omega
end
end K51
namespace K51
open PySem PySem.Spec PyProof.Rows L2 MM
theorem nodup_len : ∀ (N : Nat) (l : List Nat), l.Nodup → (∀ x ∈ l, x < N) → l.length ≤ N
  | 0, l, _, h => by
    cases l with
    | nil => exact Nat.le_refl _
    | cons a r => exact absurd (h a (by simp)) (by omega)
  | N + 1, l, d, h => by
    by_cases z : N ∈ l
    · have h1 := List.length_erase_of_mem z
      have h2 := nodup_len N (l.erase N) (d.erase N) fun x hx => by
        have h3 := (List.Nodup.mem_erase_iff d).mp hx
        have := h x h3.2
        omega
      omega
    · have := nodup_len N l d fun x hx => by
        have := h x hx
        have : x ≠ N := fun e => z (e ▸ hx)
        omega
      omega
structure Both (h g : MH) (n : Nat) (s : Sto) (m : Nat) (M : Mod) : Prop where
  vs : V h (cells n s)
  ok : SOk n s
  vm : V g (mcells m M)
  mo : MOk m M
  sim : Sim s M
section
variable {h g k : MH} {n m : Nat} {s s' : Sto} {M M' : Mod}
theorem Sim.note (h : Sim s M) (x : Str) (y z : Int) : Sim (noted s x y z) M := ⟨h.O, h.bg, h.ks, h.all, h.reg, h.pg, h.be, h.own, h.fr, h.tot⟩
theorem V.keep {cs cs' : List (Nat × MO)} (v : V h cs') (e : Ev cs h k) (ap : ∀ i, i ∈ cs'.map (·.1) → i ∉ cs.map (·.1)) : V k cs' := fun p hp => by
  rw [e.2 p.1 (v.lt (i := p.1) (o := p.2) hp) (ap p.1 (List.mem_map_of_mem hp))]; exact v p hp
theorem pages_len (b : Both h g n s m M) {r : Rg} (hr : r ∈ s.rs) : r.pages.length ≤ s.O.length := by
  obtain ⟨nd, iff⟩ := b.sim.pg r hr
  exact nodup_len _ _ nd fun p hp => (List.getElem?_eq_some_iff.mp ((iff p).mp hp)).1
theorem spot_split {x : Sp} {j : Nat} (h : M.sp[j]? = some x) : ∃ s1 s2, M.sp = s1 ++ x :: s2 ∧ s1.length = j := by
  obtain ⟨lt, e⟩ := List.getElem?_eq_some_iff.mp h
  refine ⟨M.sp.take j, M.sp.drop (j + 1), ?_, by rw [List.length_take]; omega⟩
  rw [← e, ← List.drop_eq_getElem_cons lt, List.take_append_drop]
structure Wd (s : Sto) (M : Mod) : Prop where
  eq : s.W = M.W
  zero : ∀ a : Nat, s.O[a / 8]? = some (-1) → s.W[a]? = some 0
theorem blank_same {W : List Int} {a w : Nat} (h : ∀ i < w, W[a + i]? = some 0) (fit : a + w ≤ W.length) : blankL W a w = W := by
  apply List.ext_getElem?
  intro i
  rw [blank_put, putO_get fit]
  by_cases z : i < a
  · rw [if_pos z]
  · rw [if_neg z]
    by_cases y : i < a + w
    · rw [if_pos y]
      have := h (i - a) (by omega)
      rw [show a + (i - a) = i by omega] at this
      exact this.symm
    · rw [if_neg y]
def gW (s : Sto) (m : Nat) : List Int := if firstP s m = s.O.length then s.W ++ List.replicate (8 * m) 0 else s.W
theorem stA_W {s : Sto} {r : Rg} {m : Nat} (hm : m ≠ 0) : (stA s r m).W = gW s m := by
  unfold stA
  rw [if_neg hm]
  show (growP s m).W = _
  unfold growP gW
  split <;> rfl
theorem gW_row {s : Sto} {M : Mod} (wd : Wd s M) (w8 : s.W.length = 8 * s.O.length) {m : Nat} (hm : 1 ≤ m) (fr : rowAt s.O m (firstP s m)) {a : Nat} (ha : 8 * firstP s m ≤ a) (ha2 : a < 8 * (firstP s m + m)) : (gW s m)[a]? = some 0 := by
  unfold gW
  by_cases z : firstP s m = s.O.length
  · rw [if_pos z, List.getElem?_append_right (by omega), List.getElem?_replicate, if_pos (by omega)]
  · rw [if_neg z]
    rcases fr with ⟨_, wn, _⟩ | ⟨q, _⟩
    · have := win_iff.mp wn (a / 8 - firstP s m) (by omega)
      rw [show firstP s m + (a / 8 - firstP s m) = a / 8 by omega] at this
      exact wd.zero a this
    · exact absurd q z
theorem gW_more {s : Sto} {M : Mod} (wd : Wd s M) (ho : s.O = M.O) {m q : Nat} (hm : 1 ≤ m) (hq : q = firstP s m) : moreW M q m = gW s m := by
  have := firstP_le s hm
  unfold moreW gW
  rw [hq, ← ho, ← wd.eq]
  by_cases z : firstP s m = s.O.length
  · rw [if_neg (by omega), if_pos z]
  · rw [if_pos (by omega), if_neg z]
theorem zero_cell {s : Sto} {M : Mod} (wd : Wd s M) (w8 : s.W.length = 8 * s.O.length) (hf : s.fr = (s.O.count (-1) : Nat)) {r1 r2 : List Rg} {r : Rg} {w : Nat} (hw : 1 ≤ w) (fit : cellA s r w + w ≤ (stA s r (need r w)).W.length) (a : Nat)
    (ha : (cellP s r1 r2 r w).O[a / 8]? = some (-1)) : (cellP s r1 r2 r w).W[a]? = some 0 := by
  have gO : (cellP s r1 r2 r w).O = (stA s r (need r w)).O := rfl
  rw [gO] at ha
  have old : s.O[a / 8]? = some (-1) := by
    by_cases z : need r w = 0
    · rw [z] at ha; exact ha
    · have n1 : 1 ≤ need r w := by omega
      have fr := first_row (s := s) n1 hf
      have e : (stA s r (need r w)).O = takenO s r (need r w) := by unfold stA; rw [if_neg z]
      rw [e, taken_get fr n1] at ha
      split at ha
      · have := Option.some.inj ha; omega
      · exact ha
  have lt := (List.getElem?_eq_some_iff.mp old).1
  show (blankL (stA s r (need r w)).W (cellA s r w) w)[a]? = _
  rw [blank_put, putO_get fit]
  have w0 : (stA s r (need r w)).W[a]? = some 0 := by
    have h0 := wd.zero a old
    by_cases z : need r w = 0
    · rw [z]; exact h0
    · rw [stA_W z]
      unfold gW
      split
      · rw [List.getElem?_append_left (by omega)]; exact h0
      · exact h0
  split
  · exact w0
  · split
    · rfl
    · exact w0
theorem both_cell (b : Both h g n s m M) {r1 r2 : List Rg} {r : Rg} (e : s.rs = r1 ++ r :: r2) {w : Nat} (hw : 1 ≤ w) (hw2 : w ≤ 1000) (room : s.O.length + 200 ≤ 100000) (hlg : s.log.length ≤ 100000) :
    ∃ k k' M', m_Store_cell [.ref n, .int r.key, .int w] h = .ok (.int (cellA s r w)) k ∧ m__law_cell [.ref m, .int r.key, .int w] g = .ok (.int (cellA s r w)) k' ∧ Both k k' n (noted (cellP s r1 r2 r w) "cell" r.key (cellA s r w)) m M' ∧ To n h s k (noted (cellP s r1 r2 r w) "cell" r.key (cellA s r w)) ∧ MT m g M k' M' ∧ M'.op = M.op ∧ M'.hd = hdP M r.key w ∧ (Wd s M → Wd (cellP s r1 r2 r w) M') := by
  have rm : r ∈ s.rs := by rw [e]; simp
  have w8 := b.ok.w8
  obtain ⟨bb1, bb2⟩ := b.sim.be r rm
  have pl := pages_len b rm
  have sm := b.ok.sm
  have ks := b.ok.ks
  obtain ⟨k, e1, t1⟩ := cell_ok b.vs b.ok e hw hw2 room (by omega) (by omega) hlg
  have vm := b.vm
  obtain ⟨x, x1, x2, x3, x4⟩ := b.sim.reg r rm
  obtain ⟨s1, s2, es, hk⟩ := spot_split x1
  have ho := b.sim.O
  have mo := b.mo
  have mlen : M.O.length = s.O.length := by rw [ho]
  have fitA : cellA s r w + w ≤ (stA s r (need r w)).W.length := by
    by_cases z0 : need r w = 0
    · have z8 : ¬ 8 < w := fun q => by unfold need at z0; rw [if_pos q] at z0; omega
      have zl : ¬ (-(r.behind : Int)) % 8 < w := fun q => by unfold need at z0; rw [if_neg z8, if_pos q] at z0; omega
      have bn : r.behind % 8 ≠ 0 := by omega
      have blt : r.behind / 8 < s.O.length := (List.getElem?_eq_some_iff.mp (bb2 bn)).1
      have cA : cellA s r w = r.behind := by unfold cellA atA; rw [z0]; rfl
      have cS : stA s r (need r w) = s := by unfold stA; rw [z0]; rfl
      rw [cA, cS]; omega
    · have n1 : 1 ≤ need r w := by omega
      have fl := firstP_le s n1
      have cA : cellA s r w = 8 * firstP s (need r w) := by unfold cellA atA; rw [if_neg z0]
      have nw : w ≤ 8 * need r w := by
        by_cases z8 : 8 < w
        · have : need r w = (w + 7) / 8 := if_pos z8
          omega
        · omega
      rw [cA, stA_W z0]
      unfold gW
      rcases fl with q | q
      · rw [if_pos q]; simp; omega
      · rw [if_neg (by omega)]; omega
  -- it is enough to tell the model's end
  suffices z : ∃ k' M', m__law_cell [.ref m, .int r.key, .int w] g = .ok (.int (cellA s r w)) k' ∧ MT m g M k' M' ∧ Sim (cellP s r1 r2 r w) M' ∧ M'.W.length = 8 * M'.O.length ∧ M'.sp.length = M.sp.length ∧ M'.hd = hdP M r.key w ∧ M'.op = M.op ∧ (Wd s M → (cellP s r1 r2 r w).W = M'.W) by
    obtain ⟨k', M', e2, t2, sm', q1, q2, q3, q4, q5⟩ := z
    refine ⟨k, k', M', e1, e2, ⟨t1.v, t1.ok, t2.v, ⟨t2.dj, q1, ?_, by rw [q2, q4]; exact mo.ls, by rw [q3, q4, hdP_len]; exact mo.lh, by rw [q4]; exact mo.lo⟩, sm'.note _ _ _⟩, t1, t2, q4, q3, fun wd => ⟨q5 wd, zero_cell wd w8 b.sim.fr hw fitA⟩⟩
    rw [← sm'.O]; exact t1.ok.sm
  by_cases z8 : 8 < w
  · have nd : need r w = (w + 7) / 8 := if_pos z8
    have n1 : 1 ≤ (w + 7) / 8 := by omega
    obtain ⟨q, k', e2, rq, t2⟩ := lawCell_big vm mo es z8 hw2
    have fr := first_row (s := s) n1 b.sim.fr
    have eq : q = firstP s ((w + 7) / 8) := row_unique rq (ho ▸ fr)
    have ca : ((cellA s r w : Nat) : Int) = 8 * (q : Int) := by
      unfold cellA atA; rw [nd, if_neg (by omega), ← eq]; omega
    rw [hk] at e2 t2
    refine ⟨k', _, by rw [ca]; exact e2, t2, ?_, ?_, rfl, rfl, rfl, fun wd => ?_⟩
    · have s1' := b.sim.take ks e n1 (moreW M (firstP s ((w + 7) / 8)) ((w + 7) / 8))
      have s2' := s1'.words (r := { r with pages := r.pages ++ (List.range ((w + 7) / 8)).map (firstP s ((w + 7) / 8) + ·) }) (r1 := r1) (r2 := r2) (by
        show ((r1 ++ _ :: r2).map (·.key)).Nodup
        have := ks
        rw [e] at this
        simpa using this) rfl w
      have s3' := s2'.W (blankL (stA s r (need r w)).W (cellA s r w) w) (moreW M (firstP s ((w + 7) / 8)) ((w + 7) / 8))
      have hS : cellP s r1 r2 r w = { ({ takeP s r1 r2 r ((w + 7) / 8) with rs := r1 ++ { ({ r with pages := r.pages ++ (List.range ((w + 7) / 8)).map (firstP s ((w + 7) / 8) + ·) } : Rg) with words := r.words + w } :: r2, tot := (takeP s r1 r2 r ((w + 7) / 8)).tot + w } : Sto) with W := blankL (stA s r (need r w)).W (cellA s r w) w } := by
        have gt : (takeP s r1 r2 r ((w + 7) / 8)).tot = s.tot := by show (growP s _).tot = _; unfold growP; split <;> rfl
        rw [gt]
        unfold cellP
        have h1 : stA s r (need r w) = { growP s ((w + 7) / 8) with O := takenO s r ((w + 7) / 8) } := by unfold stA; rw [nd, if_neg (by omega)]
        have h2 : rgA s r w = { r with pages := r.pages ++ (List.range ((w + 7) / 8)).map (firstP s ((w + 7) / 8) + ·) } := by
          unfold rgA pgA; rw [nd, if_neg (by omega), if_pos z8]
        rw [h1, h2]
        rfl
      rw [hS, eq]
      exact s3'
    · show (moreW M q ((w + 7) / 8)).length = 8 * (putO (moreO M q ((w + 7) / 8)) q ((w + 7) / 8) (r.key : Int)).length
      have mw := mo.w8
      have fit : q + (w + 7) / 8 ≤ (moreO M q ((w + 7) / 8)).length := by
        unfold moreO
        rcases rq with ⟨a, c, _⟩ | ⟨a, _⟩
        · rw [if_pos a]; exact win_fit n1 c
        · rw [if_neg (by omega), List.length_append, List.length_replicate]; omega
      rw [putO_len fit]
      unfold moreW moreO
      split
      · exact mw
      · rw [List.length_append, List.length_append, List.length_replicate, List.length_replicate]; omega
    · show blankL (stA s r (need r w)).W (cellA s r w) w = moreW M q ((w + 7) / 8)
      have cA : cellA s r w = 8 * firstP s ((w + 7) / 8) := by unfold cellA atA; rw [nd, if_neg (by omega)]
      have nz : need r w ≠ 0 := by omega
      have ft := fitA
      rw [stA_W nz, nd] at ft
      rw [gW_more wd ho n1 eq, stA_W nz, nd]
      refine blank_same (fun i hi => gW_row wd w8 n1 fr ?_ ?_) ft
      · rw [cA]; omega
      · rw [cA]; omega
  · by_cases zl : x.left < w
    · have nz : (-(r.behind : Int)) % 8 < w := (need_left x3).mpr zl
      have nd : need r w = 1 := by unfold need; rw [if_neg z8, if_pos nz]
      obtain ⟨q, k', e2, rq, t2⟩ := lawCell_new vm mo es hw (by omega) zl
      have fr := first_row (s := s) (m := 1) (by decide) b.sim.fr
      have eq : q = firstP s 1 := row_unique rq (ho ▸ fr)
      have ca : ((cellA s r w : Nat) : Int) = ((8 * q : Nat) : Int) := by
        unfold cellA atA; rw [nd, if_neg (by decide), ← eq]
      rw [hk] at e2 t2
      have tl := takenO_len s r (m := 1) (by decide)
      have ql := row_le rq
      refine ⟨k', _, by rw [ca]; exact e2, t2, ?_, ?_, by show (s1 ++ _ :: s2).length = _; rw [es]; simp, rfl, rfl, fun wd => ?_⟩
      · have s1' := b.sim.take ks e (m := 1) (by decide) (blankL (moreW M (firstP s 1) 1) (8 * firstP s 1) w)
        have tks : ∀ r' : Rg, r'.key = r.key → ((r1 ++ r' :: r2).map (·.key)).Nodup := fun r' hr' => by
          have := ks
          rw [e] at this
          simpa [hr'] using this
        have s2' := s1'.spot (r := { r with pages := r.pages ++ (List.range 1).map (firstP s 1 + ·) }) (r1 := r1) (r2 := r2) (tks _ rfl) rfl (s1 := s1) (s2 := s2) (x := x) es hk (b := 8 * firstP s 1 + w) (by
            show _ ≤ 8 * (takenO s r 1).length
            rw [tl]
            rw [← eq]
            split <;> omega) (fun hb => by
            show (takenO s r 1)[(8 * firstP s 1 + w) / 8]? = _
            rw [taken_get fr (by decide), show (8 * firstP s 1 + w) / 8 = firstP s 1 by omega, if_pos (by omega)]) (l := 8 - w) (by omega)
        have s3' := s2'.words (r := { ({ r with pages := r.pages ++ (List.range 1).map (firstP s 1 + ·) } : Rg) with behind := 8 * firstP s 1 + w }) (r1 := r1) (r2 := r2) (tks _ rfl) rfl w
        have s4' := s3'.W (blankL (stA s r (need r w)).W (cellA s r w) w) (blankL (moreW M (firstP s 1) 1) (8 * firstP s 1) w)
        have hS : cellP s r1 r2 r w = { ({ takeP s r1 r2 r 1 with rs := r1 ++ { ({ ({ r with pages := r.pages ++ (List.range 1).map (firstP s 1 + ·) } : Rg) with behind := 8 * firstP s 1 + w } : Rg) with words := r.words + w } :: r2, tot := (takeP s r1 r2 r 1).tot + w } : Sto) with W := blankL (stA s r (need r w)).W (cellA s r w) w } := by
          have gt : (takeP s r1 r2 r 1).tot = s.tot := by show (growP s _).tot = _; unfold growP; split <;> rfl
          rw [gt]
          unfold cellP
          have h1 : stA s r (need r w) = { growP s 1 with O := takenO s r 1 } := by unfold stA; rw [nd, if_neg (by decide)]
          have h2 : rgA s r w = { r with pages := r.pages ++ (List.range 1).map (firstP s 1 + ·), behind := 8 * firstP s 1 + w } := by
            unfold rgA pgA atA; rw [nd, if_neg (by decide), if_neg z8, if_neg (by decide)]
          rw [h1, h2]
          rfl
        rw [hS, eq]
        exact s4'
      · show (blankL (moreW M q 1) (8 * q) w).length = 8 * (putO (moreO M q 1) q 1 (r.key : Int)).length
        have mw := mo.w8
        have fit : q + 1 ≤ (moreO M q 1).length := by
          unfold moreO
          rcases rq with ⟨a, c, _⟩ | ⟨a, _⟩
          · rw [if_pos a]; exact win_fit (by decide) c
          · rw [if_neg (by omega), List.length_append, List.length_replicate]; omega
        have ll : (moreW M q 1).length = 8 * (moreO M q 1).length := by
          unfold moreW moreO
          split
          · exact mw
          · rw [List.length_append, List.length_append, List.length_replicate, List.length_replicate]; omega
        rw [putO_len fit, blankL_len (by omega), ll]
      · show blankL (stA s r (need r w)).W (cellA s r w) w = blankL (moreW M q 1) (8 * q) w
        have cA : cellA s r w = 8 * q := by unfold cellA atA; rw [nd, if_neg (by decide), ← eq]
        rw [gW_more wd ho (by decide) eq, cA, nd, stA_W (by decide)]
    · have nz : ¬ (-(r.behind : Int)) % 8 < w := fun q => zl ((need_left x3).mp q)
      have nd : need r w = 0 := by unfold need; rw [if_neg z8, if_neg nz]
      have bn : r.behind % 8 ≠ 0 := by omega
      have bo := bb2 bn
      have blt : r.behind / 8 < s.O.length := (List.getElem?_eq_some_iff.mp bo).1
      have mw := mo.w8
      have fit : x.nxt + w ≤ M.W.length := by rw [mw, mlen, x2]; omega
      obtain ⟨k', e2, t2⟩ := lawCell_old vm mo es (by omega) (by omega) fit
      have ca : cellA s r w = x.nxt := by unfold cellA atA; rw [nd, x2]; rfl
      rw [hk] at e2 t2
      refine ⟨k', _, by rw [ca]; exact e2, t2, ?_, ?_, by show (s1 ++ _ :: s2).length = _; rw [es]; simp, rfl, rfl, fun wd => ?_⟩
      · have tks : ∀ r' : Rg, r'.key = r.key → ((r1 ++ r' :: r2).map (·.key)).Nodup := fun r' hr' => by
          have := ks
          rw [e] at this
          simpa [hr'] using this
        have s2' := b.sim.spot ks e es hk (b := x.nxt + w) (by omega) (fun hb => by
            rw [show (x.nxt + w) / 8 = r.behind / 8 by omega]; exact bo) (l := x.left - w) (by omega)
        have s3' := s2'.words (r := { r with behind := x.nxt + w }) (r1 := r1) (r2 := r2) (tks _ rfl) rfl w
        have s4' := s3'.W (blankL (stA s r (need r w)).W (cellA s r w) w) (blankL M.W x.nxt w)
        have hS : cellP s r1 r2 r w = { ({ s with rs := r1 ++ { ({ r with behind := x.nxt + w } : Rg) with words := r.words + w } :: r2, tot := s.tot + w } : Sto) with W := blankL (stA s r (need r w)).W (cellA s r w) w } := by
          unfold cellP
          have h1 : stA s r (need r w) = s := by unfold stA; rw [nd]; rfl
          have h2 : rgA s r w = { r with behind := x.nxt + w } := by
            unfold rgA pgA atA; rw [nd, if_neg z8, x2]; rfl
          rw [h1, h2]
        rw [hS]
        exact s4'
      · show (blankL M.W x.nxt w).length = 8 * M.O.length
        rw [blankL_len fit, mw]
      · show blankL (stA s r (need r w)).W (cellA s r w) w = blankL M.W x.nxt w
        rw [ca, nd, ← wd.eq]; rfl
end
end K51
namespace K51
open PySem PySem.Spec PyProof.Rows L2 MM
section
variable {h k : MH} {n m : Nat} {s s' : Sto} {M M' : Mod}
def spR (M : Mod) (p : Nat) : List D := (M.sp ++ [(⟨p, 0, 0⟩ : Sp)]).map fun (x : Sp) => D.ref x.pos
def lbP (M : Mod) (p : Nat) : Mod := { M with op := M.op ++ [true], sp := M.sp ++ [⟨p, 0, 0⟩], hd := M.hd ++ [0] }
theorem lawBegin_ok (v : V h (mcells m M)) (o : MOk m M) (hl : M.op.length + 1 ≤ 100000) : ∃ k, m__law_begin [.ref m] h = .ok (.int M.op.length) k ∧ V k (mcells m (lbP M h.length)) ∧ MOk m (lbP M h.length) ∧ Ev (mcells m M) h k ∧ k.length = h.length + 1 := by
  have ls := o.ls
  have lh := o.lh
  have t1 := mtP v o.dj (M.op ++ [true])
  have l1 : (h.set M.p2 (.lst ((M.op ++ [true]).map .bl))).length = h.length := List.length_set ..
  have v2 : V (h.set M.p2 (.lst ((M.op ++ [true]).map .bl)) ++ [MO.lst [.int 0, .int 0]]) (mcells m { M with op := M.op ++ [true] }) := t1.v.app _
  let A : List (Nat × MO) := [(m, MO.lst [.ref M.p0, .ref M.p1, .ref M.p2, .ref M.p3, .ref M.p4]), (M.p0, .lst (M.O.map .int)), (M.p1, .lst (M.W.map .int)), (M.p2, .lst ((M.op ++ [true]).map .bl))]
  have v3 : V ((h.set M.p2 (.lst ((M.op ++ [true]).map .bl)) ++ [MO.lst [.int 0, .int 0]]).set M.p3 (.lst (spR M h.length))) (A ++ (M.p3, MO.lst (spR M h.length)) :: (M.p4, .lst (M.hd.map .int)) :: M.sp.map spO) := V.set (l1 := A) v2 t1.dj _
  have d3 : Dj (A ++ (M.p3, MO.lst (spR M h.length)) :: (M.p4, .lst (M.hd.map .int)) :: M.sp.map spO) := Dj.set (l1 := A) t1.dj _
  have v4 : V (((h.set M.p2 (.lst ((M.op ++ [true]).map .bl)) ++ [MO.lst [.int 0, .int 0]]).set M.p3 (.lst (spR M h.length))).set M.p4 (.lst ((M.hd ++ [0]).map .int))) ((A ++ [(M.p3, MO.lst (spR M h.length))]) ++ (M.p4, .lst ((M.hd ++ [0]).map .int)) :: M.sp.map spO) :=
    V.set (l1 := A ++ [(M.p3, MO.lst (spR M h.length))]) (o0 := .lst (M.hd.map .int)) (by rw [List.append_assoc]; exact v3) (by rw [List.append_assoc]; exact d3) _
  have d4 : Dj ((A ++ [(M.p3, MO.lst (spR M h.length))]) ++ (M.p4, .lst ((M.hd ++ [0]).map .int)) :: M.sp.map spO) :=
    Dj.set (l1 := A ++ [(M.p3, MO.lst (spR M h.length))]) (o0 := .lst (M.hd.map .int)) (by rw [List.append_assoc]; exact d3) _
  have ec : mcells m (lbP M h.length) = ((A ++ [(M.p3, MO.lst (spR M h.length))]) ++ (M.p4, .lst ((M.hd ++ [0]).map .int)) :: M.sp.map spO) ++ [spO ⟨h.length, 0, 0⟩] := by
    unfold mcells lbP spR
    simp [A]
  have low : ∀ p ∈ ((A ++ [(M.p3, MO.lst (spR M h.length))]) ++ (M.p4, .lst ((M.hd ++ [0]).map .int)) :: M.sp.map spO), p.1 < h.length := fun p hp => by
    have : p.1 ∈ (mcells m M).map (·.1) := by
      have := List.mem_map_of_mem (f := (·.1)) hp
      simpa [mcells, A] using this
    obtain ⟨q, hq, e⟩ := List.mem_map.mp this
    rw [← e]; exact v.lt (i := q.1) (o := q.2) hq
  have h3 : M.p3 < h.length := v.lt (mS (m := m))
  have h4 : M.p4 < h.length := v.lt (mH (m := m))
  refine ⟨((h.set M.p2 (.lst ((M.op ++ [true]).map .bl)) ++ [MO.lst [.int 0, .int 0]]).set M.p3 (.lst (spR M h.length))).set M.p4 (.lst ((M.hd ++ [0]).map .int)), ?_, ?_, ⟨?_, o.w8, o.sm, by simp [lbP, ls], by simp [lbP, lh], by simp [lbP]; omega⟩, ?_, ?_⟩
  · show mFnN 1 1 b__law_begin _ _ = _
    rw [mFnN_eq (by rfl)]
    show mEndN (b__law_begin [some (.ref m)] h) = _
    have p2 := x2 v
    have ap1 : fAppend (.ref M.p2) [.bl true] h = .ok .non (h.set M.p2 (.lst ((M.op ++ [true]).map .bl))) := by
      unfold fAppend
      simp only [yP v]
      rw [if_pos (by simp; omega)]
      simp
    have ty1 := isTy_ref (T := "list") (yP v)
    have a1 : mDrop (mMtd "list" fAppend (mOp opIx (mVar 0) (mC (.int 2))) (mCons (mC (.bl true)) (mNil))) [some (.ref m)] h = .ok (.next [some (.ref m)]) (h.set M.p2 (.lst ((M.op ++ [true]).map .bl))) := by
      generalize h.set M.p2 (.lst ((M.op ++ [true]).map .bl)) = H1 at ap1 ⊢
      simp [p2, ty1, ap1]
    have p3 := x3 t1.v
    have ty2 := isTy_ref (T := "list") (yS t1.v)
    have ap2 : fAppend (.ref M.p3) [.ref h.length] (h.set M.p2 (.lst ((M.op ++ [true]).map .bl)) ++ [MO.lst [.int 0, .int 0]]) = .ok .non ((h.set M.p2 (.lst ((M.op ++ [true]).map .bl)) ++ [MO.lst [.int 0, .int 0]]).set M.p3 (.lst (spR M h.length))) := by
      unfold fAppend
      simp only [yS v2]
      rw [if_pos (by simp; omega)]
      unfold spR
      simp
    have a2 : mDrop (mMtd "list" fAppend (mOp opIx (mVar 0) (mC (.int 3))) (mCons (mLstN (mCons (mC (.int 0)) (mCons (mC (.int 0)) (mNil)))) (mNil))) [some (.ref m)] (h.set M.p2 (.lst ((M.op ++ [true]).map .bl))) = .ok (.next [some (.ref m)]) ((h.set M.p2 (.lst ((M.op ++ [true]).map .bl)) ++ [MO.lst [.int 0, .int 0]]).set M.p3 (.lst (spR M h.length))) := by
      have e0 : mLstN (mCons (mC (.int 0)) (mCons (mC (.int 0)) (mNil))) [some (.ref m)] (h.set M.p2 (.lst ((M.op ++ [true]).map .bl))) = .ok (.ref h.length) (h.set M.p2 (.lst ((M.op ++ [true]).map .bl)) ++ [MO.lst [.int 0, .int 0]]) := by
        rw [← l1]; simp
      generalize (h.set M.p2 (.lst ((M.op ++ [true]).map .bl)) ++ [MO.lst [.int 0, .int 0]]).set M.p3 (.lst (spR M h.length)) = H3 at ap2 ⊢
      generalize h.set M.p2 (.lst ((M.op ++ [true]).map .bl)) ++ [MO.lst [.int 0, .int 0]] = H2 at ap2 e0
      have p3' : opIx (.ref m) (.int 3) (h.set M.p2 (.lst ((M.op ++ [true]).map .bl))) = .ok (.ref M.p3) (h.set M.p2 (.lst ((M.op ++ [true]).map .bl))) := p3
      have ty2' : isTy "list" (.ref M.p3) (h.set M.p2 (.lst ((M.op ++ [true]).map .bl))) = true := ty2.trans (by decide)
      generalize h.set M.p2 (.lst ((M.op ++ [true]).map .bl)) = H1 at p3' ty2' e0 ⊢
      rw [mDrop_eq, mMtd_eq, mOp_eq, mVar_eq (show _ = some (some (D.ref m)) from rfl), R.bnd_ok, mC_eq, R.bnd_ok, p3', R.bnd_ok, if_pos ty2', mCons_eq, e0, R.bnd_ok, mNil_eq, R.bnd_ok, R.bnd_ok, ap2, R.st_ok]
    have v3' : ∀ p, p ∈ (A ++ (M.p3, MO.lst (spR M h.length)) :: (M.p4, .lst (M.hd.map .int)) :: M.sp.map spO) → ((h.set M.p2 (.lst ((M.op ++ [true]).map .bl)) ++ [MO.lst [.int 0, .int 0]]).set M.p3 (.lst (spR M h.length)))[p.1]? = some p.2 := v3
    have am := v3' (m, MO.lst [.ref M.p0, .ref M.p1, .ref M.p2, .ref M.p3, .ref M.p4]) (by simp [A])
    have a4 := v3' (M.p4, .lst (M.hd.map .int)) (by simp)
    have am2 := v4 (m, MO.lst [.ref M.p0, .ref M.p1, .ref M.p2, .ref M.p3, .ref M.p4]) (by simp [A])
    have ap := v4 (M.p2, .lst ((M.op ++ [true]).map .bl)) (by simp [A])
    generalize (h.set M.p2 (.lst ((M.op ++ [true]).map .bl)) ++ [MO.lst [.int 0, .int 0]]).set M.p3 (.lst (spR M h.length)) = H3 at a2 am a4 am2 ap ⊢
    have am : H3[m]? = some (.lst [.ref M.p0, .ref M.p1, .ref M.p2, .ref M.p3, .ref M.p4]) := am
    have a4 : H3[M.p4]? = some (.lst (M.hd.map .int)) := a4
    have q4 : opIx (.ref m) (.int 4) H3 = .ok (.ref M.p4) H3 := opIx_of (by rw [ixG_ref, lst?_of am]; rfl)
    have ty3 := isTy_ref (T := "list") (lst?_of a4)
    have ap3 : fAppend (.ref M.p4) [.int 0] H3 = .ok .non (H3.set M.p4 (.lst ((M.hd ++ [0]).map .int))) := by
      unfold fAppend
      simp only [lst?_of a4]
      rw [if_pos (by simp; omega)]
      simp
    have a3 : mDrop (mMtd "list" fAppend (mOp opIx (mVar 0) (mC (.int 4))) (mCons (mC (.int 0)) (mNil))) [some (.ref m)] H3 = .ok (.next [some (.ref m)]) (H3.set M.p4 (.lst ((M.hd ++ [0]).map .int))) := by
      generalize H3.set M.p4 (.lst ((M.hd ++ [0]).map .int)) = H4 at ap3 ⊢
      simp [q4, ty3, ap3]
    generalize H3.set M.p4 (.lst ((M.hd ++ [0]).map .int)) = H4 at a3 am2 ap ⊢
    have am2 : H4[m]? = some (.lst [.ref M.p0, .ref M.p1, .ref M.p2, .ref M.p3, .ref M.p4]) := am2
    have ap : H4[M.p2]? = some (.lst ((M.op ++ [true]).map .bl)) := ap
    have q2 : opIx (.ref m) (.int 2) H4 = .ok (.ref M.p2) H4 := opIx_of (by rw [ixG_ref, lst?_of am2]; rfl)
    have ln : fLen [.ref M.p2] H4 = .ok (.int ((M.op.length : Int) + 1)) H4 := by rw [fLen_ref (lst?_of ap)]; simp
    unfold b__law_begin
    rw [mSeq_eq, a1, SR.seq_next, mSeq_eq, a2, SR.seq_next, mSeq_eq, a3, SR.seq_next]
    have su : ((M.op.length : Int) + 1 - 1) = M.op.length := by omega
    simp [q2, ln, su]
    rfl
  · intro p hp
    rw [ec] at hp
    rcases List.mem_append.mp hp with q | q
    · exact v4 p q
    · rw [List.mem_singleton.mp q]
      show (((h.set M.p2 _ ++ _).set M.p3 _).set M.p4 _)[h.length]? = _
      rw [List.getElem?_set_ne (by omega), List.getElem?_set_ne (by omega)]
      have := at_end0 (h := h.set M.p2 (.lst ((M.op ++ [true]).map .bl))) (o := .lst [.int 0, .int 0]) (g := [])
      rw [l1] at this
      exact this
  · unfold Dj
    rw [ec, List.map_append, List.nodup_append]
    refine ⟨d4, by simp, fun a ha b hb z => ?_⟩
    obtain ⟨p, hp, rfl⟩ := List.mem_map.mp ha
    have := low p hp
    simp [spO] at hb
    omega
  · exact (((t1.ev).app _).set (mS (m := m)) _).set (mH (m := m)) _
  · rw [List.length_set, List.length_set, List.length_append, l1]; rfl
theorem Sim.begin (b : Sim s M) (hls : M.sp.length = M.op.length) (hlh : M.hd.length = M.op.length) (p : Nat) : Sim (beginP s h) (lbP M p) := by
  have kb : ∀ r ∈ s.rs, r.key < M.op.length := fun r hr => (List.getElem?_eq_some_iff.mp (b.ks r hr)).1
  have bg := b.bg
  have mem : ∀ r, r ∈ (beginP s h).rs ↔ r ∈ s.rs ∨ r = newRg s h := fun r => by simp [beginP]
  refine ⟨b.O, by simp [beginP, lbP, bg], fun r hr => ?_, fun j hj => ?_, fun r hr => ?_, fun r hr => ?_, fun r hr => ?_, fun p o hp => ?_, b.fr, ?_⟩
  · rcases (mem r).mp hr with hr | rfl
    · show (M.op ++ [true])[r.key]? = _
      rw [List.getElem?_append_left (kb r hr)]; exact b.ks r hr
    · show (M.op ++ [true])[s.bg]? = _
      rw [bg]; simp
  · have hj : (M.op ++ [true])[j]? = some true := hj
    by_cases z : j < M.op.length
    · rw [List.getElem?_append_left z] at hj
      obtain ⟨r, hr, e⟩ := b.all j hj
      exact ⟨r, (mem r).mpr (.inl hr), e⟩
    · have := (List.getElem?_eq_some_iff.mp hj).1
      simp at this
      exact ⟨newRg s h, (mem _).mpr (.inr rfl), by show s.bg = j; omega⟩
  · rcases (mem r).mp hr with hr | rfl
    · obtain ⟨x, h1, h2, h3, h4⟩ := b.reg r hr
      have := kb r hr
      exact ⟨x, by show (M.sp ++ _)[r.key]? = _; rw [List.getElem?_append_left (by omega)]; exact h1, h2, h3, by show (M.hd ++ _)[r.key]? = _; rw [List.getElem?_append_left (by omega)]; exact h4⟩
    · refine ⟨⟨p, 0, 0⟩, ?_, rfl, by simp [newRg], ?_⟩
      · show (M.sp ++ [_])[s.bg]? = _
        rw [bg, ← hls]; simp
      · show (M.hd ++ [0])[s.bg]? = _
        rw [bg, ← hlh]; simp [newRg]
  · rcases (mem r).mp hr with hr | rfl
    · exact b.pg r hr
    · refine ⟨List.nodup_nil, fun p => ⟨fun q => by simp [newRg] at q, fun q => ?_⟩⟩
      have q : s.O[p]? = some (s.bg : Int) := q
      rcases b.own p _ q with z | ⟨r, hr, z⟩
      · omega
      · have := kb r hr; omega
  · rcases (mem r).mp hr with hr | rfl
    · exact b.be r hr
    · exact ⟨Nat.zero_le _, fun q => absurd rfl q⟩
  · rcases b.own p o hp with z | ⟨r, hr, z⟩
    · exact .inl z
    · exact .inr ⟨r, (mem r).mpr (.inl hr), z⟩
  · show s.tot = ((s.rs ++ [newRg s h]).map (·.words)).sum
    rw [b.tot]
    simp [newRg]
theorem both_begin (b : Both h g n s m M) (hl : M.op.length + 1 ≤ 100000) (hlg : s.log.length ≤ 100000) : ∃ k k', m_Store_begin [.ref n] h = .ok (.int M.op.length) k ∧ m__law_begin [.ref m] g = .ok (.int M.op.length) k' ∧ Both k k' n (noted (beginP s h) "begin" M.op.length 0) m (lbP M g.length) ∧ Ev (cells n s) h k ∧ k.length = h.length + 2 ∧ Ev (mcells m M) g k' ∧ k'.length = g.length + 1 := by
  have kb : ∀ r ∈ s.rs, r.key < s.bg := fun r hr => by rw [b.sim.bg]; exact (List.getElem?_eq_some_iff.mp (b.sim.ks r hr)).1
  have hr : s.rs.length ≤ M.op.length := by
    have := nodup_len M.op.length (s.rs.map (·.key)) b.ok.ks fun x hx => by
      obtain ⟨r, hr, rfl⟩ := List.mem_map.mp hx
      have := kb r hr
      rw [b.sim.bg] at this
      exact this
    rwa [List.length_map] at this
  have bg := b.sim.bg
  obtain ⟨k, e1, v1, o1, ev1, l1⟩ := begin_ok b.vs b.ok kb (by omega) (by omega) hlg
  obtain ⟨k', e2, v2, o2, ev2, l2⟩ := lawBegin_ok b.vm b.mo hl
  rw [bg] at v1 o1
  exact ⟨k, k', by rw [← bg]; exact e1, e2, ⟨v1, o1, v2, o2, (b.sim.begin b.mo.ls b.mo.lh _).note _ _ _⟩, ev1, l1, ev2, l2⟩
end
end K51
namespace K51
open PySem PySem.Spec PyProof.Rows L2 MM
section
variable {h k : MH} {n m : Nat} {s s' : Sto} {M M' : Mod}
theorem mul8 {p : Nat} (hp : p ≤ 1000000) (k : MH) : opMul (.int 8) (.int (p : Int)) k = .ok (.int ((8 * p : Nat) : Int)) k := by
  have lg : (8 : Int).natAbs.log2 + (p : Int).natAbs.log2 < 1000000 := by
    have : (p : Int).natAbs.log2 < 100 := by
      by_cases z : (p : Int).natAbs = 0
      · rw [z]; decide
      · rw [Nat.log2_lt z]
        exact Nat.lt_of_le_of_lt (show (p : Int).natAbs ≤ 1000000 by omega) (by decide)
    have : (8 : Int).natAbs.log2 = 3 := by decide
    omega
  rw [opMul_int lg]
  congr 2
theorem eight_loop {A : Option D} {p : Nat} : ∀ (r : Nat) (h : MH) (M : Mod) (w : Nat) (x3 : Option D), w + r = 8 → V h (mcells m M) → Dj (mcells m M) → 8 * p + 8 ≤ M.W.length → M.W.length ≤ 1600000 → ∃ k y3, MM.forM (fun _ => True) (mgName 3) b__law_end_1 (((List.range 8).drop w).map fun (i : Nat) => D.int i) [some (.ref m), A, some (.int p), x3] h =
      .ok (.next [some (.ref m), A, some (.int p), y3]) k ∧ MT m h M k { M with W := (List.range' (8 * p + w) r).foldl (fun O i => O.set i 0) M.W }
  | 0, h, M, w, x3, hr, v, d, _, _ => ⟨h, x3, by rw [List.drop_eq_nil_of_le (by simp; omega), List.map_nil, MM.forM, if_pos trivial], MT.refl v d⟩
  | r + 1, h, M, w, x3, hr, v, d, ho, hz => by
    have t1 := mtW v d (M.W.set (8 * p + w) 0)
    obtain ⟨k, y3, e2, t2⟩ := eight_loop (A := A) (p := p) r _ _ (w + 1) (some (.int w)) (by omega) t1.v t1.dj (by simp; omega) (by simp; omega)
    refine ⟨k, y3, ?_, t1.trans t2⟩
    have dr : (List.range 8).drop w = w :: (List.range 8).drop (w + 1) := by
      rw [List.drop_eq_getElem_cons (by simp; omega)]; simp
    have st := set_ok (d := .int 0) (i := (((8 * p : Nat) : Int) + (w : Int))) (yW v) (by omega) (by simp; omega) (by simp; omega)
    rw [show (M.W.map D.int).set (((8 * p : Nat) : Int) + (w : Int)).toNat (.int 0) = (M.W.set (8 * p + w) 0).map .int by rw [List.map_set, show (((8 * p : Nat) : Int) + (w : Int)).toNat = 8 * p + w by omega]] at st
    have bd : b__law_end_1 [some (.ref m), A, some (.int p), some (.int w)] h = .ok (.next [some (.ref m), A, some (.int p), some (.int w)]) (h.set M.p1 (.lst ((M.W.set (8 * p + w) 0).map .int))) := by
      have hx1 := x1 v
      have mu := mul8 (p := p) (by omega) h
      unfold b__law_end_1
      generalize h.set M.p1 (.lst ((M.W.set (8 * p + w) 0).map .int)) = H1 at st ⊢
      generalize ((8 * p : Nat) : Int) = z at st mu
      simp [mSetIx2, hx1, mu, st]
    rw [dr, List.map_cons, forM_next trivial (show mgName 3 (.int (w : Int)) [some (.ref m), A, some (.int p), x3] = some [some (.ref m), A, some (.int p), some (.int w)] from rfl) bd]
    exact e2
def offB (j : Nat) (o : Int) : Int := if o = j then -1 else o
def eO (O : List Int) (j p : Nat) : List Int := (O.take p).map (offB j) ++ O.drop p
def eW (O W : List Int) (j p : Nat) : List Int := (List.range p).foldl (fun W q => if O[q]? = some (j : Int) then blankL W (8 * q) 8 else W) W
theorem eW_succ {O W : List Int} {j p : Nat} : eW O W j (p + 1) = if O[p]? = some (j : Int) then blankL (eW O W j p) (8 * p) 8 else eW O W j p := by
  unfold eW
  rw [List.range_succ, List.foldl_append]
  rfl
theorem eW_len {O W : List Int} {j : Nat} : ∀ p, 8 * p ≤ W.length → (eW O W j p).length = W.length
  | 0, _ => rfl
  | p + 1, h => by
    have ih := eW_len (O := O) (W := W) (j := j) p (by omega)
    rw [eW_succ]
    split
    · rw [blankL_len (by rw [ih]; omega), ih]
    · exact ih
theorem eO_get {O : List Int} {j p : Nat} (hp : p ≤ O.length) (i : Nat) : (eO O j p)[i]? = if i < p then (O[i]?).map (offB j) else O[i]? := by
  unfold eO
  have hl : ((O.take p).map (offB j)).length = p := by simp; omega
  by_cases z : i < p
  · rw [List.getElem?_append_left (by omega), List.getElem?_map, List.getElem?_take_of_lt z, if_pos z]
  · rw [List.getElem?_append_right (by omega), hl, List.getElem?_drop, if_neg z]
    congr 1
    omega
theorem eO_succ {O : List Int} {j p : Nat} (hp : p < O.length) : eO O j (p + 1) = if O[p]? = some (j : Int) then (eO O j p).set p (-1) else eO O j p := by
  apply List.ext_getElem?
  intro i
  have hl : (eO O j p).length = O.length := by unfold eO; simp; omega
  rw [eO_get (by omega)]
  by_cases z : O[p]? = some (j : Int)
  · rw [if_pos z, List.getElem?_set, eO_get (by omega)]
    by_cases z2 : p = i
    · subst z2
      rw [if_pos (by omega), if_pos rfl, if_pos (by omega), z]
      simp [offB]
    · rw [if_neg z2]
      by_cases z3 : i < p
      · rw [if_pos z3, if_pos (by omega)]
      · rw [if_neg z3, if_neg (by omega)]
  · rw [if_neg z, eO_get (by omega)]
    by_cases z2 : i = p
    · subst z2
      rw [if_pos (by omega), if_neg (by omega), List.getElem?_eq_getElem hp, Option.map_some]
      rw [List.getElem?_eq_getElem hp] at z
      unfold offB
      rw [if_neg fun q => z (by rw [q])]
    · by_cases z3 : i < p
      · rw [if_pos z3, if_pos (by omega)]
      · rw [if_neg z3, if_neg (by omega)]
def leP (M : Mod) (j : Nat) : Mod := { M with op := M.op.set j false, O := M.O.map (offB j), W := eW M.O M.W j M.O.length }
theorem lawEnd_ok (v : V h (mcells m M)) (o : MOk m M) {j : Nat} (hj : j < M.op.length) : ∃ k, m__law_end [.ref m, .int j] h = .ok .non k ∧ MT m h M k (leP M j) := by
  have w8 := o.w8
  have sm := o.sm
  have lo := o.lo
  have t1 := mtP v o.dj (M.op.set j false)
  have lp : TmS (MM.forM (fun _ => True) (mgName 2) b__law_end_2 ((List.range M.O.length).map fun (i : Nat) => D.int i) [some (.ref m), some (.int j), none, none] (h.set M.p2 (.lst ((M.op.set j false).map .bl))))
      (fun f h' => (∃ δ, f = .next δ) ∧ MT m h M h' (leP M j)) (fun _ _ _ _ => False) := by
    refine TmS_range (fun p δ h' => p ≤ M.O.length ∧ (∃ a b, δ = [some (.ref m), some (.int j), a, b]) ∧ MT m h M h' { M with op := M.op.set j false, O := eO M.O j p, W := eW M.O M.W j p }) ?_ ?_ ?_
    · rintro p δ h' hp ⟨_, ⟨a, b, rfl⟩, t⟩
      refine ⟨[some (.ref m), some (.int j), some (.int p), b], rfl, ?_⟩
      have v' := t.v
      have hx0 := x0 v'
      have el : (eO M.O j p).length = M.O.length := by unfold eO; simp; omega
      have ix : opIx (.ref M.p0) (.int p) h' = .ok (.int M.O[p]) h' := opIx_of (by
        rw [ixG_ref, yO v', Option.bind_some]
        exact atI_ok (by omega) (by
          rw [Int.toNat_natCast, List.getElem?_map]
          show ((eO M.O j p)[p]?).map D.int = _
          rw [eO_get (by omega), if_neg (by omega), List.getElem?_eq_getElem hp]; rfl))
      by_cases z : M.O[p] = (j : Int)
      · have zo : M.O[p]? = some (j : Int) := by rw [List.getElem?_eq_getElem hp, z]
        have t2 := mtO v' t.dj ((eO M.O j p).set p (-1))
        obtain ⟨k, y3, e3, t3⟩ := eight_loop (A := some (.int j)) (p := p) 8 _ _ 0 b rfl t2.v t2.dj (by show _ ≤ (eW M.O M.W j p).length; rw [eW_len p (by omega)]; omega) (by show (eW M.O M.W j p).length ≤ _; rw [eW_len p (by omega)]; omega)
        have pf := putO_fold (x := 0) (O := eW M.O M.W j p) (q := 8 * p) 8 0 (by rw [eW_len p (by omega)]; omega)
        rw [putO_zero, Nat.zero_add, Nat.add_zero] at pf
        have tt : MT m h M k { M with op := M.op.set j false, O := eO M.O j (p + 1), W := eW M.O M.W j (p + 1) } := by
          rw [eO_succ hp, if_pos zo, eW_succ, if_pos zo, blank_put, ← pf]
          exact (t.trans t2).trans t3
        have st := set_ok (d := .int (-1)) (i := (p : Int)) (yO v') (by omega) (by simp [el]; exact hp) (by simp [el]; omega)
        rw [show (((eO M.O j p).map D.int).set ((p : Int)).toNat (.int (-1))) = ((eO M.O j p).set p (-1)).map .int by rw [List.map_set, Int.toNat_natCast]] at st
        have r8 := fRange_nat (n := 8) (h := h'.set M.p0 (.lst (((eO M.O j p).set p (-1)).map .int))) (by decide)
        rw [List.drop_zero] at e3
        have fo : mFor (mCallI fRange1 (mCons (mC (.int 8)) (mNil))) (mgName 3) (b__law_end_1) [some (.ref m), some (.int j), some (.int p), b] (h'.set M.p0 (.lst (((eO M.O j p).set p (-1)).map .int))) = .ok (.next [some (.ref m), some (.int j), some (.int p), y3]) k := by
          rw [mFor_eq, mCallI_eq, mCons_eq, mC_eq, R.bnd_ok, mNil_eq, R.bnd_ok, R.bnd_ok]
          have r8' : fRange1 [.int 8] (h'.set M.p0 (.lst (((eO M.O j p).set p (-1)).map .int))) = .ok ⟨(List.range 8).map fun (i : Nat) => .int i, fun _ => True⟩ (h'.set M.p0 (.lst (((eO M.O j p).set p (-1)).map .int))) := r8
          rw [r8', R.st_ok]
          exact e3
        have bd : b__law_end_2 [some (.ref m), some (.int j), some (.int p), b] h' = .ok (.next [some (.ref m), some (.int j), some (.int p), y3]) k := by
          have st' : setG2 (.ref M.p0) (.int p) (.int (-1)) h' = some (h'.set M.p0 (.lst (((eO M.O j p).set p (-1)).map .int))) := st
          have a1 : mSetIx2 (mUn opNeg (mC (.int 1))) (mOp opIx (mVar 0) (mC (.int 0))) (mVar 2) [some (.ref m), some (.int j), some (.int p), b] h' = .ok (.next [some (.ref m), some (.int j), some (.int p), b]) (h'.set M.p0 (.lst (((eO M.O j p).set p (-1)).map .int))) := by
            generalize h'.set M.p0 (.lst (((eO M.O j p).set p (-1)).map .int)) = H1 at st' ⊢
            simp [mSetIx2, hx0, st']
          have ts : mB (mOp opEq (mOp opIx (mOp opIx (mVar 0) (mC (.int 0))) (mVar 2)) (mVar 1)) [some (.ref m), some (.int j), some (.int p), b] h' = .ok true h' := by simp [hx0, ix, z]
          unfold b__law_end_2
          rw [mIfS_eq, ts, R.st_ok, if_pos rfl, mSeq_eq, a1, SR.seq_next, fo]
        rw [bd]
        exact ⟨_, rfl, hp, ⟨_, _, rfl⟩, tt⟩
      · have zo : ¬ M.O[p]? = some (j : Int) := by rw [List.getElem?_eq_getElem hp]; exact fun q => z (Option.some.inj q)
        have bd : b__law_end_2 [some (.ref m), some (.int j), some (.int p), b] h' = .ok (.next [some (.ref m), some (.int j), some (.int p), b]) h' := by
          have ts : mB (mOp opEq (mOp opIx (mOp opIx (mVar 0) (mC (.int 0))) (mVar 2)) (mVar 1)) [some (.ref m), some (.int j), some (.int p), b] h' = .ok false h' := by simp [hx0, ix, z]
          unfold b__law_end_2
          rw [mIfS_eq, ts, R.st_ok]
          rfl
        rw [bd]
        exact ⟨_, rfl, hp, ⟨_, _, rfl⟩, by rw [eO_succ hp, if_neg zo, eW_succ, if_neg zo]; exact t⟩
    · rintro δ h' ⟨_, ⟨a, b, rfl⟩, t⟩
      refine ⟨⟨_, rfl⟩, ?_⟩
      have : eO M.O j M.O.length = M.O.map (offB j) := by unfold eO; simp
      rw [this] at t
      exact t
    · exact ⟨Nat.zero_le _, ⟨_, _, rfl⟩, by
        have : eO M.O j 0 = M.O := by simp [eO]
        rw [this]; exact t1⟩
  obtain ⟨f, k, e2, ⟨δ, rfl⟩, t2⟩ := lp.exN
  refine ⟨k, t2.next0 (δ := δ) rfl ?_, t2⟩
  show b__law_end [some (.ref m), some (.int j), none, none] h = _
  have hx2 := x2 v
  have st := set_ok (d := .bl false) (i := (j : Int)) (yP v) (by omega) (by simp; omega) (by simp; omega)
  rw [show ((M.op.map D.bl).set ((j : Int)).toNat (.bl false)) = (M.op.set j false).map .bl by rw [List.map_set, Int.toNat_natCast]] at st
  have n0 := nO t1.v
  have hx0 := x0 t1.v
  have r1 := fRange_nat (n := M.O.length) (h := h.set M.p2 (.lst ((M.op.set j false).map .bl))) (by omega)
  unfold b__law_end
  have a1 : mSetIx2 (mC (.bl false)) (mOp opIx (mVar 0) (mC (.int 2))) (mVar 1) [some (.ref m), some (.int j), none, none] h = .ok (.next [some (.ref m), some (.int j), none, none]) (h.set M.p2 (.lst ((M.op.set j false).map .bl))) := by
    generalize h.set M.p2 (.lst ((M.op.set j false).map .bl)) = H1 at st ⊢
    simp [mSetIx2, hx2, st]
  have hx0' : opIx (.ref m) (.int 0) (h.set M.p2 (.lst ((M.op.set j false).map .bl))) = .ok (.ref M.p0) (h.set M.p2 (.lst ((M.op.set j false).map .bl))) := hx0
  have n0' : fLen [.ref M.p0] (h.set M.p2 (.lst ((M.op.set j false).map .bl))) = .ok (.int M.O.length) (h.set M.p2 (.lst ((M.op.set j false).map .bl))) := n0
  rw [mSeq_eq, a1, SR.seq_next, mFor_eq, mCallI_eq, mCons_eq, mCall_eq, mCons_eq, mOp_eq, mVar_eq (show _ = some (some (D.ref m)) from rfl), R.bnd_ok, mC_eq, R.bnd_ok, hx0', R.bnd_ok, mNil_eq, R.bnd_ok, R.bnd_ok, n0', R.bnd_ok, mNil_eq, R.bnd_ok, R.bnd_ok, r1, R.st_ok, e2]
theorem count_own {j : Nat} : ∀ (ps : List Nat) (O : List Int), ps.Nodup → (∀ p ∈ ps, O[p]? = some (j : Int)) → (endO O ps).count (-1) = O.count (-1) + ps.length
  | [], O, _, _ => rfl
  | p :: ps, O, nd, h => by
    rw [List.nodup_cons] at nd
    have hp := h p (by simp)
    obtain ⟨lt, e⟩ := List.getElem?_eq_some_iff.mp hp
    show (endO (O.set p (-1)) ps).count (-1) = _
    rw [count_own (j := j) ps (O.set p (-1)) nd.2 fun q hq => by
      rw [List.getElem?_set_ne (fun z => nd.1 (by rw [z]; exact hq))]; exact h q (by simp [hq])]
    rw [List.count_set lt, e]
    have : ((j : Int) == -1) = false := beq_eq_false_iff_ne.mpr (by omega)
    rw [this]
    simp
    omega
theorem endO_get : ∀ (ps : List Nat) (O : List Int) (i : Nat), (endO O ps)[i]? = if i ∈ ps ∧ i < O.length then some (-1) else O[i]?
  | [], O, i => by simp [endO]
  | p :: ps, O, i => by
    show (endO (O.set p (-1)) ps)[i]? = _
    rw [endO_get ps, List.length_set, List.getElem?_set]
    by_cases z : i ∈ ps ∧ i < O.length
    · rw [if_pos z, if_pos ⟨by simp [z.1], z.2⟩]
    · rw [if_neg z]
      by_cases z2 : p = i
      · subst z2
        rw [if_pos rfl]
        by_cases z3 : p < O.length
        · rw [if_pos z3, if_pos ⟨by simp, z3⟩]
        · rw [if_neg z3, if_neg (fun q => z3 q.2), List.getElem?_eq_none (by omega)]
      · rw [if_neg z2, if_neg (fun q => z ⟨by
          rcases List.mem_cons.mp q.1 with w | w
          · exact absurd w.symm z2
          · exact w, q.2⟩)]
theorem Sim.ends (b : Sim s M) (ks : (s.rs.map (·.key)).Nodup) {r1 r2 : List Rg} {r : Rg} (e : s.rs = r1 ++ r :: r2) : Sim (endP s r1 r2 r) (leP M r.key) := by
  have kn := key_ne ks e
  have rm : r ∈ s.rs := (mem_split e).mpr (.inl rfl)
  have oth : ∀ y ∈ r1 ++ r2, y ∈ s.rs := fun y hy => (mem_split e).mpr (.inr hy)
  obtain ⟨nd, iff⟩ := b.pg r rm
  have oe : endO s.O r.pages = s.O.map (offB r.key) := by
    apply List.ext_getElem?
    intro i
    rw [endO_get, List.getElem?_map]
    by_cases z : i ∈ r.pages
    · have h1 := (iff i).mp z
      rw [if_pos ⟨z, (List.getElem?_eq_some_iff.mp h1).1⟩, h1]
      simp [offB]
    · rw [if_neg (fun q => z q.1)]
      cases h1 : s.O[i]? with
      | none => rfl
      | some o =>
        have : o ≠ r.key := fun q => z ((iff i).mpr (by rw [h1, q]))
        simp [offB, this]
  have og : ∀ i, (s.O.map (offB r.key))[i]? = (s.O[i]?).map (offB r.key) := fun i => List.getElem?_map
  have keep : ∀ (i : Nat) (o : Int), s.O[i]? = some o → o ≠ r.key → (endO s.O r.pages)[i]? = some o := fun i o h1 h2 => by
    rw [oe, og, h1]; simp [offB, h2]
  refine ⟨?_, ?_, fun y hy => ?_, fun j hj => ?_, fun y hy => ?_, fun y hy => ?_, fun y hy => ?_, fun p o hp => ?_, ?_, ?_⟩
  · show endO s.O r.pages = M.O.map _
    rw [oe, b.O]
  · show s.bg = (M.op.set r.key false).length
    rw [List.length_set]; exact b.bg
  · show (M.op.set r.key false)[y.key]? = _
    rw [List.getElem?_set_ne (fun z => kn y hy z.symm)]; exact b.ks y (oth y hy)
  · have hj : (M.op.set r.key false)[j]? = some true := hj
    rw [List.getElem?_set] at hj
    by_cases z : r.key = j
    · rw [if_pos z] at hj
      split at hj <;> cases hj
    · rw [if_neg z] at hj
      obtain ⟨y, hy, q⟩ := b.all j hj
      rcases (mem_split e).mp hy with w | w
      · rw [w] at q; exact absurd q z
      · exact ⟨y, w, q⟩
  · exact b.reg y (oth y hy)
  · obtain ⟨nd2, iff2⟩ := b.pg y (oth y hy)
    refine ⟨nd2, fun p => ?_⟩
    have := kn y hy
    show _ ↔ (endO s.O r.pages)[p]? = _
    rw [iff2 p]
    refine ⟨fun q => keep p _ q (by omega), fun q => ?_⟩
    rw [oe, og] at q
    cases h1 : s.O[p]? with
    | none => rw [h1] at q; cases q
    | some o =>
      rw [h1] at q
      have q := Option.some.inj q
      unfold offB at q
      split at q
      · omega
      · rw [q]
  · obtain ⟨c1, c2⟩ := b.be y (oth y hy)
    refine ⟨by show _ ≤ 8 * (endO s.O r.pages).length; rw [endO_len]; exact c1, fun q => ?_⟩
    have := kn y hy
    exact keep _ _ (c2 q) (by omega)
  · have hp : (endO s.O r.pages)[p]? = some o := hp
    rw [oe, og] at hp
    cases h1 : s.O[p]? with
    | none => rw [h1] at hp; cases hp
    | some o2 =>
      rw [h1] at hp
      have q := Option.some.inj hp
      unfold offB at q
      split at q
      · exact .inl q.symm
      · rename_i z
        rcases b.own p o2 h1 with w | ⟨y, hy, w⟩
        · exact .inl (by omega)
        · rcases (mem_split e).mp hy with w2 | w2
          · rw [w2] at w; exact absurd w.symm z
          · exact .inr ⟨y, w2, by omega⟩
  · show s.fr + r.pages.length = ((endO s.O r.pages).count (-1) : Nat)
    rw [count_own (j := r.key) r.pages s.O nd fun p hp => (iff p).mp hp, b.fr]
    omega
  · show s.tot - r.words = ((r1 ++ r2).map (·.words)).sum
    rw [b.tot, e]
    simp
    omega
theorem both_end (b : Both h g n s m M) {r1 r2 : List Rg} {r : Rg} (e : s.rs = r1 ++ r :: r2) (hlg : s.log.length ≤ 100000) : ∃ k k', m_Store_end [.ref n, .int r.key] h = .ok .non k ∧ m__law_end [.ref m, .int r.key] g = .ok .non k' ∧ Both k k' n (noted (endP s r1 r2 r) "end" r.key 0) m (leP M r.key) ∧ Ev (cells n (endP s r1 r2 r)) h k ∧ k.length = h.length ∧ (∀ i, i ∈ (cells n (endP s r1 r2 r)).map (·.1) → i ∈ (cells n s).map (·.1)) ∧ MT m g M k' (leP M r.key) := by
  have rm : r ∈ s.rs := (mem_split e).mpr (.inl rfl)
  obtain ⟨nd, iff⟩ := b.sim.pg r rm
  obtain ⟨k, e1, v1, o1, ev1, l1, fs⟩ := end_ok b.vs b.ok e (fun p hp => (List.getElem?_eq_some_iff.mp ((iff p).mp hp)).1) hlg
  have vm := b.vm
  have mo := b.mo
  have kj : r.key < M.op.length := (List.getElem?_eq_some_iff.mp (b.sim.ks r rm)).1
  obtain ⟨k', e2, t2⟩ := lawEnd_ok vm mo kj
  refine ⟨k, k', e1, e2, ⟨v1, o1, t2.v, ⟨t2.dj, ?_, ?_, ?_, ?_, ?_⟩, (b.sim.ends b.ok.ks e).note _ _ _⟩, ev1, l1, fs, t2⟩
  · show (eW M.O M.W r.key M.O.length).length = 8 * (M.O.map _).length
    rw [eW_len _ (by have := mo.w8; omega), List.length_map]; exact mo.w8
  · show (M.O.map _).length ≤ _
    rw [List.length_map]; exact mo.sm
  · show M.sp.length = (M.op.set r.key false).length
    rw [List.length_set]; exact mo.ls
  · show M.hd.length = (M.op.set r.key false).length
    rw [List.length_set]; exact mo.lh
  · show (M.op.set r.key false).length ≤ _
    rw [List.length_set]; exact mo.lo
end
end K51
namespace K51
open PySem PySem.Spec PyProof.Rows L2 MM
def free (r : Rg) (a : Nat) : Prop := r.behind % 8 ≠ 0 ∧ a / 8 = r.behind / 8 ∧ r.behind ≤ a
section
variable {h k : MH} {n m : Nat} {s s' : Sto} {M M' : Mod} {r1 r2 : List Rg} {r : Rg} {w : Nat}
structure CellF (s : Sto) (r1 r2 : List Rg) (r : Rg) (w : Nat) : Prop where
  fit : cellA s r w + w ≤ (cellP s r1 r2 r w).W.length
  own : ∀ i < w, (cellP s r1 r2 r w).O[(cellA s r w + i) / 8]? = some (r.key : Int)
  zero : ∀ i < w, (cellP s r1 r2 r w).W[cellA s r w + i]? = some 0
  new : ∀ i < w, ¬ free (rgA s r w) (cellA s r w + i)
  old : ∀ a, s.O[a / 8]? = some (r.key : Int) → ¬ free r a → (a < cellA s r w ∨ cellA s r w + w ≤ a) ∧ (a < s.W.length → (cellP s r1 r2 r w).W[a]? = s.W[a]?) ∧ (cellP s r1 r2 r w).O[a / 8]? = some (r.key : Int) ∧ ¬ free (rgA s r w) a
  len : (cellP s r1 r2 r w).O.length ≤ s.O.length + (w + 7) / 8
theorem Both.To (b : Both h g n s m M) {W : List Int} (t : To n h s k { s with W := W }) : Both k g n { s with W := W } m M := ⟨t.v, t.ok, b.vm, b.mo, b.sim.W W M.W⟩
end
end K51
namespace K51
open PySem PySem.Spec PyProof.Rows L2 MM
section
variable {h : MH} {s : Sto} {M : Mod} {r1 r2 : List Rg} {r : Rg}
theorem Wd.begin (w : Wd s M) {p : Nat} : Wd (beginP s h) (lbP M p) := ⟨w.eq, w.zero⟩
theorem blank_get {W : List Int} {p a : Nat} (hp : 8 * p + 8 ≤ W.length) : (blankL W (8 * p) 8)[a]? = if a / 8 = p then some 0 else W[a]? := by
  rw [blank_put, putO_get hp]
  by_cases z : a / 8 = p
  · rw [if_pos z, if_neg (by omega), if_pos (by omega)]
  · rw [if_neg z]
    by_cases y : a < 8 * p
    · rw [if_pos y]
    · rw [if_neg y, if_neg (by omega)]
theorem endW_get : ∀ (ps : List Nat) (W : List Int) (a : Nat), (∀ p ∈ ps, 8 * p + 8 ≤ W.length) → (endW W ps).length = W.length ∧ (endW W ps)[a]? = if a / 8 ∈ ps then some 0 else W[a]?
  | [], W, a, _ => ⟨rfl, by simp [endW]⟩
  | p :: ps, W, a, hp => by
    have h0 := hp p (by simp)
    have bl : (blankL W (8 * p) 8).length = W.length := blankL_len h0
    obtain ⟨q1, q2⟩ := endW_get ps (blankL W (8 * p) 8) a fun p' hp' => by rw [bl]; exact hp p' (by simp [hp'])
    show (endW (blankL W (8 * p) 8) ps).length = _ ∧ (endW (blankL W (8 * p) 8) ps)[a]? = _
    refine ⟨q1.trans bl, ?_⟩
    rw [q2, blank_get h0]
    by_cases z : a / 8 ∈ ps
    · rw [if_pos z, if_pos (by simp [z])]
    · rw [if_neg z]
      by_cases y : a / 8 = p
      · rw [if_pos y, if_pos (by simp [y])]
      · rw [if_neg y, if_neg (by simp [y, z])]
theorem eW_get {O W : List Int} {j : Nat} (a : Nat) : ∀ p, 8 * p ≤ W.length → (eW O W j p)[a]? = if a / 8 < p ∧ O[a / 8]? = some (j : Int) then some 0 else W[a]?
  | 0, _ => by simp [eW]
  | p + 1, hp => by
    have ih := eW_get (O := O) (W := W) (j := j) a p (by omega)
    have len := eW_len (O := O) (W := W) (j := j) p (by omega)
    rw [eW_succ]
    by_cases z : O[p]? = some (j : Int)
    · rw [if_pos z, blank_get (by rw [len]; omega), ih]
      by_cases y : a / 8 = p
      · rw [if_pos y, if_pos ⟨by omega, by rw [y]; exact z⟩]
      · rw [if_neg y]
        by_cases q : a / 8 < p ∧ O[a / 8]? = some (j : Int)
        · rw [if_pos q, if_pos ⟨by omega, q.2⟩]
        · rw [if_neg q, if_neg (fun q2 => q ⟨by omega, q2.2⟩)]
    · rw [if_neg z, ih]
      by_cases q : a / 8 < p ∧ O[a / 8]? = some (j : Int)
      · rw [if_pos q, if_pos ⟨by omega, q.2⟩]
      · rw [if_neg q, if_neg (fun q2 => ?_)]
        by_cases y : a / 8 = p
        · exact z (y ▸ q2.2)
        · exact q ⟨by omega, q2.2⟩
theorem Wd.ends (w : Wd s M) (b : Sim s M) (w8 : s.W.length = 8 * s.O.length) (hr : r ∈ s.rs) : Wd (endP s r1 r2 r) (leP M r.key) := by
  obtain ⟨nd, iff⟩ := b.pg r hr
  have hp : ∀ p ∈ r.pages, 8 * p + 8 ≤ s.W.length := fun p hp => by
    have := (List.getElem?_eq_some_iff.mp ((iff p).mp hp)).1
    omega
  refine ⟨?_, fun a ha => ?_⟩
  · show endW s.W r.pages = eW M.O M.W r.key M.O.length
    apply List.ext_getElem?
    intro a
    rw [(endW_get r.pages s.W a hp).2, eW_get a _ (by rw [← w.eq, ← b.O]; omega), ← w.eq, ← b.O]
    by_cases z : a / 8 ∈ r.pages
    · have o := (iff _).mp z
      rw [if_pos z, if_pos ⟨(List.getElem?_eq_some_iff.mp o).1, o⟩]
    · rw [if_neg z, if_neg (fun q => z ((iff _).mpr q.2))]
  · show (endW s.W r.pages)[a]? = _
    rw [(endW_get r.pages s.W a hp).2]
    have ha : (endO s.O r.pages)[a / 8]? = some (-1) := ha
    rw [endO_get] at ha
    by_cases z : a / 8 ∈ r.pages
    · rw [if_pos z]
    · rw [if_neg z]
      rw [if_neg (fun q => z q.1)] at ha
      exact w.zero a ha
theorem Wd.put (w : Wd s M) {i : Nat} {x : Int} (hi : s.O[i / 8]? ≠ some (-1)) : Wd { s with W := s.W.set i x } { M with W := M.W.set i x } := by
  refine ⟨by show s.W.set i x = M.W.set i x; rw [w.eq], fun a ha => ?_⟩
  show (s.W.set i x)[a]? = _
  by_cases z : i = a
  · subst z; exact absurd ha hi
  · rw [List.getElem?_set_ne z]; exact w.zero a ha
end
end K51
namespace K51
open PySem PySem.Spec PyProof.Rows L2 MM
section
variable {h0 h k : MH} {n m : Nat} {s : Sto} {M : Mod}
theorem Both.wl (b : Both h0 h n s m M) : M.W.length = s.W.length := by rw [b.mo.w8, b.ok.w8, b.sim.O]
theorem lawOwner_ok (b : Both h0 h n s m M) {i : Int} : m__law_owner [.ref m, .int i] h = .ok (.int (ownerP s i)) h := by
  refine mFn_pure0 rfl ?_ rfl
  show b__law_owner [some (.ref m), some (.int i)] h = _
  have wl := b.wl
  have w8 := b.ok.w8
  have a1 := x1 b.vm
  have a0 := x0 b.vm
  have nw := nW b.vm
  have d8 : opDiv (.int i) (.int 8) h = .ok (.int (i / 8)) h := opDiv_int (by decide) (by decide)
  unfold b__law_owner
  unfold ownerP
  by_cases z : 0 ≤ i ∧ i < s.W.length
  · rw [if_pos z]
    have lt : (i / 8).toNat < s.O.length := by omega
    have ix : opIx (.ref M.p0) (.int (i / 8)) h = .ok (.int (s.O.getD (i / 8).toNat (-1))) h := opIx_of (by
      rw [ixG_ref, yO b.vm, Option.bind_some, ← b.sim.O]
      exact atI_ok (by omega) (by rw [List.getElem?_map, List.getElem?_eq_getElem lt, List.getD_eq_getElem?_getD, List.getElem?_eq_getElem lt]; rfl))
    have l1 : ¬ i < 0 := by omega
    have l2 : ¬ (M.W.length : Int) ≤ i := by omega
    generalize s.O.getD (i / 8).toNat (-1) = o at ix ⊢
    simp [a1, a0, nw, l1, l2, d8, ix]
  · rw [if_neg z]
    by_cases l1 : i < 0
    · simp [l1]
    · have l2 : (M.W.length : Int) ≤ i := by omega
      simp [a1, nw, l1, l2]
end
end K51
namespace K51
open PySem PySem.Spec PyProof.Rows L2 MM
section
variable {h g k : MH} {n m : Nat} {s : Sto} {M : Mod}
def openB (M : Mod) (j : Int) : Bool := decide (0 ≤ j ∧ j < M.op.length) && M.op.getD j.toNat false
theorem open_row (b : Both h g n s m M) {j : Int} (e : openB M j = true) : ∃ r1 r r2, s.rs = r1 ++ r :: r2 ∧ (r.key : Int) = j := by
  unfold openB at e
  rw [Bool.and_eq_true] at e
  obtain ⟨z, y⟩ := e
  have z := of_decide_eq_true z
  have lt : j.toNat < M.op.length := by omega
  rw [List.getD_eq_getElem?_getD, List.getElem?_eq_getElem lt] at y
  obtain ⟨r, hr, hk⟩ := b.sim.all j.toNat (by rw [List.getElem?_eq_getElem lt]; exact congrArg some y)
  obtain ⟨r1, r2, e⟩ := List.append_of_mem hr
  exact ⟨r1, r, r2, e, by omega⟩
theorem open_not (b : Both h g n s m M) {j : Int} (e : openB M j = false) : ∀ r ∈ s.rs, (r.key : Int) ≠ j := fun r hr hk => by
  have := b.sim.ks r hr
  obtain ⟨lt, q⟩ := List.getElem?_eq_some_iff.mp this
  unfold openB at e
  rw [decide_eq_true ⟨by omega, by omega⟩, List.getD_eq_getElem?_getD, show j.toNat = r.key by omega, this] at e
  cases e
end
end K51
namespace K51
open PySem PySem.Spec PyProof.Rows L2 MM
inductive Deed where
  | beg | cel (r w : Int) | fin (r : Int) | rea (a : Int) | wri (a x : Int)
def Deed.enc : Deed → D
  | .beg => .tup [.str "begin"]
  | .cel r w => .tup [.str "cell", .int r, .int w]
  | .fin r => .tup [.str "end", .int r]
  | .rea a => .tup [.str "read", .int a]
  | .wri a x => .tup [.str "write", .int a, .int x]
def Sml (i : Int) : Prop := -(2 ^ 50) ≤ i ∧ i ≤ 2 ^ 50
def Deed.Fit : Deed → Prop
  | .beg => True
  | .cel r w => Sml r ∧ w ≤ 41
  | .fin r => Sml r
  | .rea a => Sml a
  | .wri a x => Sml a ∧ Sml x
section
variable {h k : MH} {n : Nat}
theorem perf {what fn : Str} {nums : List D} {f : List D → MH → R D} (hk : kvD kv_DEEDS what = some (.kon fn)) (ht : tab__perform_action.lookup fn = some f) (hl : nums.length ≤ 100) {r : R D} (e : f [.ref n, .rol nums] h = r)
    (hr : (∃ d, r = .ok d k) ∨ ∃ fs, r = .exc "StoreError" fs k) : m__perform [.ref n, .tup (.str what :: nums)] h = .ok .non k := by
  show mFnN 2 5 b__perform _ _ = _
  rw [mFnN_eq (by rfl)]
  show mEndN (b__perform [some (.ref n), some (.tup (.str what :: nums)), none, none, none] h) = _
  have s1 : mAsgStar 2 3 (mVar 1) [some (.ref n), some (.tup (.str what :: nums)), none, none, none] h = .ok (.next [some (.ref n), some (.tup (.str what :: nums)), some (.str what), some (.rol nums), none]) h := by
    show (if nums.length < 16777216 then _ else _) = _
    rw [if_pos (by omega)]; rfl
  have s2 : mSet 4 (mKIx kv_DEEDS (mVar 2)) [some (.ref n), some (.tup (.str what :: nums)), some (.str what), some (.rol nums), none] h = .ok (.next [some (.ref n), some (.tup (.str what :: nums)), some (.str what), some (.rol nums), some (.kon fn)]) h := by
    have : mKIx kv_DEEDS (mVar 2) [some (.ref n), some (.tup (.str what :: nums)), some (.str what), some (.rol nums), none] h = .ok (.kon fn) h := by
      show (match kvD kv_DEEDS what with | some r => R.ok r h | none => .stuck) = _
      rw [hk]
    rw [mSet_eq, this]; rfl
  have c : mCallV tab__perform_action (mVar 4) (mCons (mVar 0) (mCons (mVar 3) (mNil))) [some (.ref n), some (.tup (.str what :: nums)), some (.str what), some (.rol nums), some (.kon fn)] h = r := by
    show (match tab__perform_action.lookup fn with | some m => m [.ref n, .rol nums] h | none => .stuck) = _
    rw [ht]; exact e
  unfold b__perform
  rw [mSeq_eq, s1, SR.seq_next, mSeq_eq, s2, SR.seq_next]
  unfold mTryP mDrop
  rw [c]
  rcases hr with ⟨d, rfl⟩ | ⟨fs, rfl⟩
  · rfl
  · have : hitOne "StoreError" "StoreError" = some true := if_pos rfl
    simp only [R.st_exc, this]
    rfl
section
variable {s : Sto} {d : D} {fs : List (Str × D)} {x y : Int}
theorem isSt (v : V h (cells n s)) {m : Str} (hm : m ∉ (["words", "owners", "regions", "begun", "total", "free", "watch"] : List Str)) : isI "Store" m (.ref n) h = true := isI_ok' v hm
theorem p_begin (v : V h (cells n s)) (e : m_Store_begin [.ref n] h = .ok d k) : m__perform [.ref n, Deed.enc .beg] h = .ok .non k := by
  refine perf (fn := "_begin") (f := m__begin) (nums := []) rfl rfl (by simp) (r := .ok .non k) ?_ (.inl ⟨_, rfl⟩)
  show mFnN 2 2 b__begin _ _ = _
  rw [mFnN_eq (by rfl)]
  show mEndN (b__begin [some (.ref n), some (.rol [])] h) = _
  unfold b__begin
  simp [isSt v (m := "begin") (by decide), e]
  rfl
theorem p_cell (v : V h (cells n s)) {r : R D} (e : m_Store_cell [.ref n, .int x, .int y] h = r) (hr : (∃ i : Int, r = .ok (.int i) k ∧ LeftOf h k ∧ k.length = h.length) ∨ (r = .exc "StoreError" [("reason", d)] k ∧ k = h ∧ ∃ s, d = .str s)) : m__perform [.ref n, Deed.enc (.cel x y)] h = .ok .non k := by
  have a1 : mAsg (mVar 1) (mgSeq 2 (mgCons (mgName 2) (mgCons (mgName 3) (mgNil)))) [some (.ref n), some (.rol [.int x, .int y]), none, none] h = .ok (.next [some (.ref n), some (.rol [.int x, .int y]), some (.int x), some (.int y)]) h := by rfl
  have a2 : mMeth "Store" "cell" m_Store_cell (mVar 0) (mCons (mVar 2) (mCons (mVar 3) (mNil))) [some (.ref n), some (.rol [.int x, .int y]), some (.int x), some (.int y)] h = r := by
    simp [isSt v (m := "cell") (by decide), e]
  rcases hr with ⟨i, rfl, lf, ln⟩ | ⟨rfl, rfl, w, rfl⟩
  · refine perf (fn := "_cell") (f := m__cell) (nums := [.int x, .int y]) rfl rfl (by simp) (r := .ok .non k) ?_ (.inl ⟨_, rfl⟩)
    show mFn 2 4 b__cell _ _ = _
    rw [mFn_eq (by rfl)]
    show mEnd h (b__cell [some (.ref n), some (.rol [.int x, .int y]), none, none] h) = _
    unfold b__cell
    rw [mSeq_eq, a1, SR.seq_next]
    unfold mDrop
    rw [a2, R.st_ok]
    show leave h .non k = _
    rw [leave_eq lf rfl, List.take_of_length_le (by omega)]
  · refine perf (fn := "_cell") (f := m__cell) (nums := [.int x, .int y]) rfl rfl (by simp) (r := .exc "StoreError" [("reason", .str w)] k) ?_ (.inr ⟨_, rfl⟩)
    refine mFn_exc0 (δ := [some (.ref n), some (.rol [.int x, .int y]), some (.int x), some (.int y)]) rfl ?_ rfl
    show b__cell [some (.ref n), some (.rol [.int x, .int y]), none, none] k = _
    unfold b__cell
    rw [mSeq_eq, a1, SR.seq_next]
    unfold mDrop
    rw [a2, R.st_exc]
theorem p_end (v : V h (cells n s)) {r : R D} (e : m_Store_end [.ref n, .int x] h = r) (hr : (r = .ok .non k ∧ LeftOf h k ∧ k.length = h.length) ∨ (r = .exc "StoreError" [("reason", d)] k ∧ k = h ∧ ∃ s, d = .str s)) : m__perform [.ref n, Deed.enc (.fin x)] h = .ok .non k := by
  have a2 : mMeth "Store" "end" m_Store_end (mVar 0) (mCons (mOp opIx (mVar 1) (mC (.int 0))) (mNil)) [some (.ref n), some (.rol [.int x])] h = r := by
    have ix : opIx (.rol [.int x]) (.int 0) h = .ok (.int x) h := rfl
    simp [isSt v (m := "end") (by decide), ix, e]
  rcases hr with ⟨rfl, lf, ln⟩ | ⟨rfl, rfl, w, rfl⟩
  · refine perf (fn := "_end") (f := m__end) (nums := [.int x]) rfl rfl (by simp) (r := .ok .non k) ?_ (.inl ⟨_, rfl⟩)
    show mFn 2 2 b__end _ _ = _
    rw [mFn_eq (by rfl)]
    show mEnd h (b__end [some (.ref n), some (.rol [.int x])] h) = _
    unfold b__end mDrop
    rw [a2, R.st_ok]
    show leave h .non k = _
    rw [leave_eq lf rfl, List.take_of_length_le (by omega)]
  · refine perf (fn := "_end") (f := m__end) (nums := [.int x]) rfl rfl (by simp) (r := .exc "StoreError" [("reason", .str w)] k) ?_ (.inr ⟨_, rfl⟩)
    refine mFn_exc0 (δ := [some (.ref n), some (.rol [.int x])]) rfl ?_ rfl
    show b__end [some (.ref n), some (.rol [.int x])] k = _
    unfold b__end mDrop
    rw [a2, R.st_exc]
theorem p_read (v : V h (cells n s)) {i : Int} (e : m_Store_read [.ref n, .int x] h = .ok (.int i) k) (lf : LeftOf h k) (ln : k.length = h.length) : m__perform [.ref n, Deed.enc (.rea x)] h = .ok .non k := by
  have a2 : mMeth "Store" "read" m_Store_read (mVar 0) (mCons (mOp opIx (mVar 1) (mC (.int 0))) (mNil)) [some (.ref n), some (.rol [.int x])] h = .ok (.int i) k := by
    have ix : opIx (.rol [.int x]) (.int 0) h = .ok (.int x) h := rfl
    simp [isSt v (m := "read") (by decide), ix, e]
  refine perf (fn := "_read") (f := m__read) (nums := [.int x]) rfl rfl (by simp) (r := .ok .non k) ?_ (.inl ⟨_, rfl⟩)
  show mFn 2 2 b__read _ _ = _
  rw [mFn_eq (by rfl)]
  show mEnd h (b__read [some (.ref n), some (.rol [.int x])] h) = _
  unfold b__read mDrop
  rw [a2, R.st_ok]
  show leave h .non k = _
  rw [leave_eq lf rfl, List.take_of_length_le (by omega)]
theorem p_write (v : V h (cells n s)) (e : m_Store_write [.ref n, .int x, .int y] h = .ok .non k) (lf : LeftOf h k) (ln : k.length = h.length) : m__perform [.ref n, Deed.enc (.wri x y)] h = .ok .non k := by
  have a1 : mAsg (mVar 1) (mgSeq 2 (mgCons (mgName 2) (mgCons (mgName 3) (mgNil)))) [some (.ref n), some (.rol [.int x, .int y]), none, none] h = .ok (.next [some (.ref n), some (.rol [.int x, .int y]), some (.int x), some (.int y)]) h := by rfl
  have a2 : mMeth "Store" "write" m_Store_write (mVar 0) (mCons (mVar 2) (mCons (mVar 3) (mNil))) [some (.ref n), some (.rol [.int x, .int y]), some (.int x), some (.int y)] h = .ok .non k := by
    simp [isSt v (m := "write") (by decide), e]
  refine perf (fn := "_write") (f := m__write) (nums := [.int x, .int y]) rfl rfl (by simp) (r := .ok .non k) ?_ (.inl ⟨_, rfl⟩)
  show mFn 2 4 b__write _ _ = _
  rw [mFn_eq (by rfl)]
  show mEnd h (b__write [some (.ref n), some (.rol [.int x, .int y]), none, none] h) = _
  unfold b__write
  rw [mSeq_eq, a1, SR.seq_next]
  unfold mDrop
  rw [a2, R.st_ok]
  show leave h .non k = _
  rw [leave_eq lf rfl, List.take_of_length_le (by omega)]
end
end
end K51
namespace K51
open PySem PySem.Spec PyProof.Rows L2 MM
abbrev Evt := Str × Int × Int
section
variable {h g k : MH} {n m : Nat} {s : Sto} {M : Mod} {x y : Int} {d : D}
theorem ent {ds : List D} {r : SR} {d : D} (e : b__law_entry [some (.ref m), some (.tup ds), none] g = .ok (.ret d) k) : m__law_entry [.ref m, .tup ds] g = .ok d k := by
  show mFnN 2 3 b__law_entry _ _ = _
  rw [mFnN_eq (by rfl)]
  show mEndN (b__law_entry [some (.ref m), some (.tup ds), none] g) = _
  rw [e]; rfl
theorem e_begin (e : m__law_begin [.ref m] g = .ok (.int x) k) : m__law_entry [.ref m, Deed.enc .beg] g = .ok (evD ("begin", x, 0)) k := by
  refine ent (r := .stuck) ?_
  unfold b__law_entry
  have i0 : opIx (.tup [.str "begin"]) (.int 0) g = .ok (.str "begin") g := rfl
  have q : opEq (.str "begin") (.str "begin") g = .ok (.bl true) g := rfl
  simp [i0, q, e, evD]
theorem e_look (b : Both h g n s m M) : m__law_entry [.ref m, Deed.enc (.rea x)] g = .ok (evD ("read", ownerP s x, x)) g ∧ m__law_entry [.ref m, Deed.enc (.wri x y)] g = .ok (evD ("write", ownerP s x, x)) g := by
  have o := lawOwner_ok b (i := x)
  constructor
  · refine ent (r := .stuck) ?_
    unfold b__law_entry
    have i0 : opIx (.tup [.str "read", .int x]) (.int 0) g = .ok (.str "read") g := rfl
    have i1 : opIx (.tup [.str "read", .int x]) (.int 1) g = .ok (.int x) g := rfl
    have q : opEq (.str "read") (.str "begin") g = .ok (.bl false) g := rfl
    have q2 : opIn2 (.str "read") (.tup [.str "read", .str "write"]) g = .ok (.bl true) g := rfl
    simp [i0, i1, q, q2, o, evD]
  · refine ent (r := .stuck) ?_
    unfold b__law_entry
    have i0 : opIx (.tup [.str "write", .int x, .int y]) (.int 0) g = .ok (.str "write") g := rfl
    have i1 : opIx (.tup [.str "write", .int x, .int y]) (.int 1) g = .ok (.int x) g := rfl
    have q : opEq (.str "write") (.str "begin") g = .ok (.bl false) g := rfl
    have q2 : opIn2 (.str "write") (.tup [.str "read", .str "write"]) g = .ok (.bl true) g := rfl
    simp [i0, i1, q, q2, o, evD]
theorem closed_ok (v : V g (mcells m M)) {dd : D} : mOr (mB (mOp opLt (mVar 2) (mC (.int 0)))) (mOr (mB (mOp opGe (mVar 2) (mCall fLen (mCons (mOp opIx (mVar 0) (mC (.int 2))) (mNil))))) (mNot (mTru (mOp opIx (mOp opIx (mVar 0) (mC (.int 2))) (mVar 2))))) [some (.ref m), some dd, some (.int x)] g = .ok (!openB M x) g := by
  have a2 := x2 v
  have np := nP v
  unfold openB
  by_cases z : x < 0
  · have : ¬ (0 ≤ x ∧ x < M.op.length) := by omega
    simp [z, this]
  · by_cases z2 : x < M.op.length
    · have lt : x.toNat < M.op.length := by omega
      have ix : opIx (.ref M.p2) (.int x) g = .ok (.bl (M.op.getD x.toNat false)) g := opIx_of (by
        rw [ixG_ref, yP v, Option.bind_some]
        exact atI_ok (by omega) (by rw [List.getElem?_map, List.getD_eq_getElem?_getD, List.getElem?_eq_getElem lt]; rfl))
      have t1 : (0 ≤ x ∧ x < M.op.length) := by omega
      simp [z, a2, np, z2, ix, t1]
      intro hh; omega
    · have : ¬ (0 ≤ x ∧ x < M.op.length) := by omega
      simp [z, a2, np, z2, this]
theorem e_end (v : V g (mcells m M)) (z : openB M x = true) (e : m__law_end [.ref m, .int x] g = .ok .non k) : m__law_entry [.ref m, Deed.enc (.fin x)] g = .ok (evD ("end", x, 0)) k := by
  refine ent (r := .stuck) ?_
  unfold b__law_entry
  have i0 : opIx (.tup [.str "end", .int x]) (.int 0) g = .ok (.str "end") g := rfl
  have i1 : opIx (.tup [.str "end", .int x]) (.int 1) g = .ok (.int x) g := rfl
  have q : opEq (.str "end") (.str "begin") g = .ok (.bl false) g := rfl
  have q2 : opIn2 (.str "end") (.tup [.str "read", .str "write"]) g = .ok (.bl false) g := rfl
  have q3 : opEq (.str "end") (.str "end") g = .ok (.bl true) g := rfl
  have c := closed_ok v (x := x) (dd := .tup [.str "end", .int x])
  rw [z] at c
  generalize mOr (mB (mOp opLt (mVar 2) (mC (.int 0)))) (mOr (mB (mOp opGe (mVar 2) (mCall fLen (mCons (mOp opIx (mVar 0) (mC (.int 2))) (mNil))))) (mNot (mTru (mOp opIx (mOp opIx (mVar 0) (mC (.int 2))) (mVar 2))))) = T at c ⊢
  simp [i0, i1, q, q2, q3, c, e, evD]
theorem e_cell (v : V g (mcells m M)) (z : openB M x = true) (hy : ¬ y < 1) (e : m__law_cell [.ref m, .int x, .int y] g = .ok (.int a) k) : m__law_entry [.ref m, Deed.enc (.cel x y)] g = .ok (evD ("cell", x, a)) k := by
  refine ent (r := .stuck) ?_
  unfold b__law_entry
  have i0 : opIx (.tup [.str "cell", .int x, .int y]) (.int 0) g = .ok (.str "cell") g := rfl
  have i1 : opIx (.tup [.str "cell", .int x, .int y]) (.int 1) g = .ok (.int x) g := rfl
  have i2 : opIx (.tup [.str "cell", .int x, .int y]) (.int 2) g = .ok (.int y) g := rfl
  have q : opEq (.str "cell") (.str "begin") g = .ok (.bl false) g := rfl
  have q2 : opIn2 (.str "cell") (.tup [.str "read", .str "write"]) g = .ok (.bl false) g := rfl
  have q3 : opEq (.str "cell") (.str "end") g = .ok (.bl false) g := rfl
  have c := closed_ok v (x := x) (dd := .tup [.str "cell", .int x, .int y])
  rw [z] at c
  generalize mOr (mB (mOp opLt (mVar 2) (mC (.int 0)))) (mOr (mB (mOp opGe (mVar 2) (mCall fLen (mCons (mOp opIx (mVar 0) (mC (.int 2))) (mNil))))) (mNot (mTru (mOp opIx (mOp opIx (mVar 0) (mC (.int 2))) (mVar 2))))) = T at c ⊢
  simp [i0, i1, i2, q, q2, q3, c, e, hy, evD]
theorem e_none (v : V g (mcells m M)) {d : Deed} (hd : d = .fin x ∧ openB M x = false ∨ d = .cel x y ∧ (openB M x = false ∨ y < 1)) : m__law_entry [.ref m, d.enc] g = .ok .non g := by
  rcases hd with ⟨rfl, z⟩ | ⟨rfl, z⟩
  · refine ent (r := .stuck) ?_
    unfold b__law_entry
    have i0 : opIx (.tup [.str "end", .int x]) (.int 0) g = .ok (.str "end") g := rfl
    have i1 : opIx (.tup [.str "end", .int x]) (.int 1) g = .ok (.int x) g := rfl
    have q : opEq (.str "end") (.str "begin") g = .ok (.bl false) g := rfl
    have q2 : opIn2 (.str "end") (.tup [.str "read", .str "write"]) g = .ok (.bl false) g := rfl
    have c := closed_ok v (x := x) (dd := .tup [.str "end", .int x])
    rw [z] at c
    generalize mOr (mB (mOp opLt (mVar 2) (mC (.int 0)))) (mOr (mB (mOp opGe (mVar 2) (mCall fLen (mCons (mOp opIx (mVar 0) (mC (.int 2))) (mNil))))) (mNot (mTru (mOp opIx (mOp opIx (mVar 0) (mC (.int 2))) (mVar 2))))) = T at c ⊢
    simp [i0, i1, q, q2, c]
  · refine ent (r := .stuck) ?_
    unfold b__law_entry
    have i0 : opIx (.tup [.str "cell", .int x, .int y]) (.int 0) g = .ok (.str "cell") g := rfl
    have i1 : opIx (.tup [.str "cell", .int x, .int y]) (.int 1) g = .ok (.int x) g := rfl
    have i2 : opIx (.tup [.str "cell", .int x, .int y]) (.int 2) g = .ok (.int y) g := rfl
    have q : opEq (.str "cell") (.str "begin") g = .ok (.bl false) g := rfl
    have q2 : opIn2 (.str "cell") (.tup [.str "read", .str "write"]) g = .ok (.bl false) g := rfl
    have q3 : opEq (.str "cell") (.str "end") g = .ok (.bl false) g := rfl
    have c := closed_ok v (x := x) (dd := .tup [.str "cell", .int x, .int y])
    generalize mOr (mB (mOp opLt (mVar 2) (mC (.int 0)))) (mOr (mB (mOp opGe (mVar 2) (mCall fLen (mCons (mOp opIx (mVar 0) (mC (.int 2))) (mNil))))) (mNot (mTru (mOp opIx (mOp opIx (mVar 0) (mC (.int 2))) (mVar 2))))) = T at c ⊢
    cases zo : openB M x with
    | false =>
      rw [zo] at c
      simp [i0, i1, q, q2, c]
    | true =>
      rw [zo] at c
      have hy : y < 1 := by rcases z with z | z; rw [zo] at z; cases z; exact z
      simp [i0, i1, i2, q, q2, q3, c, hy]
end
end K51
namespace K51
open PySem PySem.Spec PyProof.Rows L2 MM
abbrev ca_ (n : Nat) (s : Sto) : List Nat := (cells n s).map (·.1)
abbrev ma_ (m : Nat) (M : Mod) : List Nat := (mcells m M).map (·.1)
structure Fw (A A' : List Nat) (h h' : MH) : Prop where
  le : h.length ≤ h'.length
  keep : ∀ i : Nat, i < h.length → i ∉ A → h'[i]? = h[i]?
  new : ∀ i ∈ A', i ∈ A ∨ h.length ≤ i
theorem Fw.refl (A : List Nat) (h : MH) : Fw A A h h := ⟨Nat.le_refl _, fun _ _ _ => rfl, fun _ z => .inl z⟩
theorem Fw.trans {A B C : List Nat} {h h' h'' : MH} (a : Fw A B h h') (b : Fw B C h' h'') : Fw A C h h'' := ⟨Nat.le_trans a.le b.le, fun i hi hn => by
    rw [b.keep i (Nat.lt_of_lt_of_le hi a.le) (fun z => (a.new i z).elim hn fun q => absurd hi (by omega)), a.keep i hi hn], fun i hi => by
    rcases b.new i hi with z | z
    · exact a.new i z
    · exact .inr (Nat.le_trans a.le z)⟩
theorem sml0 : Sml 0 := ⟨by decide, by decide⟩
def EOk (e : Evt) : Prop := (e.1.length ≤ 5 ∧ PyData.strOk e.1 = true) ∧ Sml e.2.1 ∧ Sml e.2.2
def res : Option Evt → D
  | none => .non
  | some e => evD e
structure Sd (h g : MH) (n : Nat) (s : Sto) (m : Nat) (M : Mod) (i : Nat) : Prop where
  b : Both h g n s m M
  ol : s.O.length ≤ 6 * i
  pl : M.op.length ≤ i
  ll : s.log.length ≤ i
section
variable {h g k : MH} {n m i : Nat} {s s' : Sto} {M M' : Mod} {x y : Int}
theorem To.fw (t : To n h s k s') : Fw (ca_ n s) (ca_ n s') h k := ⟨t.ev.1, t.ev.2, fun i z => .inl (by show i ∈ (cells n s).map (·.1); rw [← t.ft]; exact z)⟩
theorem MT.fw (t : MT m h M k M') : Fw (ma_ m M) (ma_ m M') h k := ⟨t.ev.1, t.ev.2, fun i z => .inl (by show i ∈ (mcells m M).map (·.1); rw [← t.ft]; exact z)⟩
theorem Sd.up (Z : Sd h g n s m M i) : Sd h g n s m M (i + 1) := ⟨Z.b, by have := Z.ol; omega, by have := Z.pl; omega, by have := Z.ll; omega⟩
theorem own_sml (b : Both h g n s m M) (hp : M.op.length ≤ 1000) (a : Int) : Sml (ownerP s a) := by
  unfold ownerP
  split
  · rename_i z
    have lt : (a / 8).toNat < s.O.length := by have := b.ok.w8; omega
    rw [List.getD_eq_getElem?_getD, List.getElem?_eq_getElem lt]
    show Sml s.O[(a / 8).toNat]
    rcases b.sim.own _ _ (List.getElem?_eq_getElem lt) with q | ⟨r, hr, q⟩
    · rw [q]; exact ⟨by decide, by decide⟩
    · have := (List.getElem?_eq_some_iff.mp (b.sim.ks r hr)).1
      rw [← q]
      exact ⟨by omega, by omega⟩
  · exact ⟨by decide, by decide⟩
theorem cells_begin {a : Nat} (hj : a ∈ ca_ n (beginP s h)) : a ∈ ca_ n s ∨ h.length ≤ a := by
  simp only [ca_, cells, beginP, List.map_cons, List.mem_cons, List.flatMap_append, List.map_append, List.mem_append, List.flatMap_cons, List.flatMap_nil, rgC, newRg, List.map_nil, List.not_mem_nil, or_false] at hj ⊢
  rcases hj with h1 | h1 | h1 | h1 | h1 | h1 | h1 | h1 | h1
  · exact .inl (.inl h1)
  · exact .inl (.inr (.inl h1))
  · exact .inl (.inr (.inr (.inl h1)))
  · exact .inl (.inr (.inr (.inr (.inl h1))))
  · exact .inl (.inr (.inr (.inr (.inr (.inl h1)))))
  · exact .inl (.inr (.inr (.inr (.inr (.inr (.inl h1))))))
  · exact .inl (.inr (.inr (.inr (.inr (.inr (.inr h1))))))
  · exact .inr (by omega)
  · exact .inr (by omega)
theorem mcells_begin {a p : Nat} (hj : a ∈ ma_ m (lbP M p)) : a ∈ ma_ m M ∨ a = p := by
  simp only [ma_, mcells, lbP, List.map_cons, List.mem_cons, List.map_append, List.mem_append, spO, List.map_map] at hj ⊢
  rcases hj with h1 | h1 | h1 | h1 | h1 | h1 | h1 | h1
  · exact .inl (.inl h1)
  · exact .inl (.inr (.inl h1))
  · exact .inl (.inr (.inr (.inl h1)))
  · exact .inl (.inr (.inr (.inr (.inl h1))))
  · exact .inl (.inr (.inr (.inr (.inr (.inl h1)))))
  · exact .inl (.inr (.inr (.inr (.inr (.inr (.inl h1))))))
  · exact .inl (.inr (.inr (.inr (.inr (.inr (.inr h1))))))
  · exact .inr (by simpa using h1)
theorem reg_closed (b : Both h g n s m M) (z : openB M x = false) : isReg s x = false := by
  unfold isReg
  rw [List.any_eq_false]
  intro r hr q
  exact open_not b z r hr (of_decide_eq_true q)
theorem end_no (v : V h (cells n s)) (q : isReg s x = false) : m_Store_end [.ref n, .int x] h = .exc "StoreError" [("reason", .str "region")] h := by
  refine mFn_exc0 (δ := [some (.ref n), some (.int x), none, none]) rfl ?_ rfl
  show b_Store_end [some (.ref n), some (.int x), none, none] h = _
  unfold b_Store_end
  have e := expect_no v q
  have : mDrop (mMeth "Store" "expect_current" m_Store_expect_current (mVar 0) (mCons (mVar 1) (mNil))) [some (.ref n), some (.int x), none, none] h = .exc "StoreError" [("reason", .str "region")] [some (.ref n), some (.int x), none, none] h := by
    simp [isSt v (m := "expect_current") (by decide), e]
  rw [mSeq_eq, this, SR.seq_exc]
theorem cell_no (v : V h (cells n s)) (q : isReg s x = false) : m_Store_cell [.ref n, .int x, .int y] h = .exc "StoreError" [("reason", .str "region")] h := by
  refine mFn_exc0 (δ := [some (.ref n), some (.int x), some (.int y), none]) rfl ?_ rfl
  show b_Store_cell [some (.ref n), some (.int x), some (.int y), none] h = _
  unfold b_Store_cell
  have e := expect_no v q
  have : mDrop (mMeth "Store" "expect_current" m_Store_expect_current (mVar 0) (mCons (mVar 1) (mNil))) [some (.ref n), some (.int x), some (.int y), none] h = .exc "StoreError" [("reason", .str "region")] [some (.ref n), some (.int x), some (.int y), none] h := by
    simp [isSt v (m := "expect_current") (by decide), e]
  rw [mSeq_eq, this, SR.seq_exc]
theorem cell_few (v : V h (cells n s)) (q : isReg s x = true) (hy : y < 1) : m_Store_cell [.ref n, .int x, .int y] h = .exc "StoreError" [("reason", .str "words")] h := by
  refine mFn_exc0 (δ := [some (.ref n), some (.int x), some (.int y), none]) rfl ?_ rfl
  show b_Store_cell [some (.ref n), some (.int x), some (.int y), none] h = _
  unfold b_Store_cell
  have e := expect_ok v q
  have s0 : mDrop (mMeth "Store" "expect_current" m_Store_expect_current (mVar 0) (mCons (mVar 1) (mNil))) [some (.ref n), some (.int x), some (.int y), none] h = .ok (.next [some (.ref n), some (.int x), some (.int y), none]) h := by
    simp [isSt v (m := "expect_current") (by decide), e]
  have s1 : mIfS (mB (mOp opLt (mVar 2) (mC (.int 1)))) (mRaise "StoreError" ["reason"] (mCons (mC (.str "words")) (mNil))) (mNext) [some (.ref n), some (.int x), some (.int y), none] h = .exc "StoreError" [("reason", .str "words")] [some (.ref n), some (.int x), some (.int y), none] h := by
    simp [hy, mRaise, okD, show (Str.ofString "words").length ≤ 100000 from by decide]
  rw [mSeq_eq, s0, SR.seq_next, mSeq_eq, s1, SR.seq_exc]
structure Out (h g : MH) (n : Nat) (s : Sto) (m : Nat) (M : Mod) (i : Nat) (d : Deed) (o : Option Evt) (h' g' : MH) (s' : Sto) (M' : Mod) : Prop where
  p : m__perform [.ref n, d.enc] h = .ok .non h'
  e : m__law_entry [.ref m, d.enc] g = .ok (res o) g'
  z : Sd h' g' n s' m M' (i + 1)
  log : s'.log = s.log ++ o.toList
  lg : s'.lg = s.lg
  u : s'.u = s.u
  fs : Fw (ca_ n s) (ca_ n s') h h'
  fm : Fw (ma_ m M) (ma_ m M') g g'
  eok : ∀ e, o = some e → EOk e
theorem step_none (Z : Sd h g n s m M i) {d : Deed} (p : m__perform [.ref n, d.enc] h = .ok .non h) (e : m__law_entry [.ref m, d.enc] g = .ok .non g) : Out h g n s m M i d none h g s M :=
  ⟨p, e, Z.up, by simp, rfl, rfl, Fw.refl _ _, Fw.refl _ _, fun _ z => by cases z⟩
theorem step {d : Deed} (f : d.Fit) (Z : Sd h g n s m M i) (hi : i ≤ 1000) : ∃ o h' g' s' M', Out h g n s m M i d o h' g' s' M' := by
  have b := Z.b
  have ol := Z.ol
  have pl := Z.pl
  have ll := Z.ll
  cases d with
  | beg =>
    obtain ⟨k, k', e1, e2, b2, ev, l1, ev2, l2⟩ := both_begin b (by omega) (by omega)
    refine ⟨some ("begin", M.op.length, 0), k, k', noted (beginP s h) "begin" M.op.length 0, lbP M g.length, ⟨p_begin b.vs e1, e_begin e2, ⟨b2, ?_, ?_, ?_⟩, rfl, rfl, rfl, ⟨by omega, ev.2, fun i z => cells_begin z⟩, ⟨by omega, ev2.2, fun i z => (mcells_begin z).imp id fun q => by omega⟩, fun e z => ?_⟩⟩
    · show s.O.length ≤ _; omega
    · show (M.op ++ [true]).length ≤ _; simp; exact pl
    · show (s.log ++ [_]).length ≤ _; simp; exact ll
    · cases z
      exact ⟨⟨(by decide : (Str.ofString "begin").length ≤ 5), (by decide +kernel : PyData.strOk (Str.ofString "begin") = true)⟩, ⟨by show _ ≤ (M.op.length : Int); omega, by show (M.op.length : Int) ≤ _; omega⟩, sml0⟩
  | rea a =>
    obtain ⟨v, k, e1, t⟩ := read_ok b.vs b.ok (by omega) (i := a)
    refine ⟨some ("read", ownerP s a, a), k, g, noted s "read" (ownerP s a) a, M, ⟨p_read b.vs e1 t.left t.len, (e_look b (y := 0)).1, ⟨⟨t.v, t.ok, b.vm, b.mo, b.sim.note _ _ _⟩, ?_, ?_, ?_⟩, rfl, rfl, rfl, t.fw, Fw.refl _ _, fun e z => ?_⟩⟩
    · show s.O.length ≤ _; omega
    · omega
    · show (s.log ++ [_]).length ≤ _; simp; exact ll
    · cases z; exact ⟨⟨(by decide : (Str.ofString "read").length ≤ 5), (by decide +kernel : PyData.strOk (Str.ofString "read") = true)⟩, own_sml b (by omega) a, f⟩
  | wri a w =>
    obtain ⟨k, e1, t⟩ := write_ok b.vs b.ok (by omega) (i := a) (x := w)
    refine ⟨some ("write", ownerP s a, a), k, g, _, M, ⟨p_write b.vs e1 t.left t.len, (e_look b (y := w)).2, ⟨⟨t.v, t.ok, b.vm, b.mo, (b.sim.W _ M.W).note _ _ _⟩, ?_, ?_, ?_⟩, rfl, rfl, rfl, t.fw, Fw.refl _ _, fun e z => ?_⟩⟩
    · show s.O.length ≤ _; omega
    · omega
    · show (s.log ++ [_]).length ≤ _; simp; exact ll
    · cases z; exact ⟨⟨(by decide : (Str.ofString "write").length ≤ 5), (by decide +kernel : PyData.strOk (Str.ofString "write") = true)⟩, own_sml b (by omega) a, f.1⟩
  | fin r =>
    cases z : openB M r with
    | false =>
      exact ⟨none, h, g, s, M, step_none Z (p_end b.vs (end_no b.vs (reg_closed b z)) (.inr ⟨rfl, rfl, _, rfl⟩)) (e_none b.vm (y := 0) (.inl ⟨rfl, z⟩))⟩
    | true =>
      obtain ⟨r1, rg, r2, er, ek⟩ := open_row b z
      obtain ⟨k, k', e1, e2, b2, ev, l1, fs, t2⟩ := both_end b er (by omega)
      rw [ek] at e1 e2 b2
      have evn : Ev (cells n (noted (endP s r1 r2 rg) "end" r 0)) h k := ev
      have lf : LeftOf h k := evn.left b2.vs fun p hp => by
        have := lows_of b2.vs p hp
        rw [l1] at this; exact this
      refine ⟨some ("end", r, 0), k, k', noted (endP s r1 r2 rg) "end" r 0, leP M rg.key, ⟨p_end (d := .non) b.vs e1 (.inl ⟨rfl, lf, l1⟩), e_end b.vm z e2, ⟨b2, ?_, ?_, ?_⟩, rfl, rfl, rfl, ⟨ev.1, fun i hi hn => ev.2 i hi fun q => hn (fs i q), fun i q => .inl (fs i q)⟩, t2.fw, fun e q => ?_⟩⟩
      · show (endO s.O rg.pages).length ≤ _
        rw [endO_len]; omega
      · show (M.op.set rg.key false).length ≤ _
        rw [List.length_set]; omega
      · show (s.log ++ [_]).length ≤ _; simp; exact ll
      · cases q; exact ⟨⟨(by decide : (Str.ofString "end").length ≤ 5), (by decide +kernel : PyData.strOk (Str.ofString "end") = true)⟩, f, sml0⟩
  | cel r w =>
    cases z : openB M r with
    | false =>
      exact ⟨none, h, g, s, M, step_none Z (p_cell b.vs (cell_no b.vs (reg_closed b z)) (.inr ⟨rfl, rfl, _, rfl⟩)) (e_none b.vm (.inr ⟨rfl, .inl z⟩))⟩
    | true =>
      obtain ⟨r1, rg, r2, er, ek⟩ := open_row b z
      by_cases hw : w < 1
      · have q : isReg s r = true := by rw [← ek]; exact reg_mem er
        exact ⟨none, h, g, s, M, step_none Z (p_cell b.vs (cell_few b.vs q hw) (.inr ⟨rfl, rfl, _, rfl⟩)) (e_none b.vm (.inr ⟨rfl, .inr hw⟩))⟩
      · obtain ⟨f1, f2⟩ := f
        obtain ⟨wn, ew⟩ : ∃ wn : Nat, w = (wn : Int) := ⟨w.toNat, by omega⟩
        obtain ⟨k, k', M', e1, e2, b2, t1, t2, q1, q2, _⟩ := both_cell b er (w := wn) (by omega) (by omega) (by omega) (by omega)
        have rm : rg ∈ s.rs := by rw [er]; simp
        obtain ⟨be1, _⟩ := b.sim.be rg rm
        have nd : need rg wn ≤ 6 := by unfold need; split; omega; split <;> omega
        have cA : cellA s rg wn ≤ 8 * s.O.length := by
          unfold cellA atA
          split
          · exact be1
          · rename_i z0
            have := firstP_le s (m := need rg wn) (by omega)
            omega
        have lA : (stA s rg (need rg wn)).log = s.log := by unfold stA growP; split; rfl; split <;> rfl
        have gA : (stA s rg (need rg wn)).lg = s.lg := by unfold stA growP; split; rfl; split <;> rfl
        have uA : (stA s rg (need rg wn)).u = s.u := by unfold stA growP; split; rfl; split <;> rfl
        have oA := stA_len s rg (need rg wn)
        rw [ek, ← ew] at e1 e2
        refine ⟨some ("cell", r, (cellA s rg wn : Nat)), k, k', noted (cellP s r1 r2 rg wn) "cell" rg.key (cellA s rg wn), M', ⟨p_cell (d := .non) b.vs e1 (.inl ⟨_, rfl, t1.left, t1.len⟩), e_cell b.vm z hw e2, ⟨b2, ?_, by rw [q1]; omega, ?_⟩, ?_, gA, uA, t1.fw, t2.fw, fun e q => ?_⟩⟩
        · show (stA s rg (need rg wn)).O.length ≤ _
          rw [oA]; split; omega; split <;> omega
        · show ((stA s rg (need rg wn)).log ++ [_]).length ≤ _
          rw [lA]; simp; exact ll
        · show (stA s rg (need rg wn)).log ++ [_] = _
          rw [lA, ek]; rfl
        · cases q
          exact ⟨⟨(by decide : (Str.ofString "cell").length ≤ 5), (by decide +kernel : PyData.strOk (Str.ofString "cell") = true)⟩, f1, ⟨by show _ ≤ ((cellA s rg wn : Nat) : Int); omega, by show ((cellA s rg wn : Nat) : Int) ≤ _; omega⟩⟩
end
end K51
namespace K51
open PySem PySem.Spec PyProof.Rows L2 MM
section
variable {h g k : MH} {n m i : Nat} {s s' : Sto} {M M' : Mod}
theorem f_store (v : V h (cells n s)) : fldG ["Watch"] "store" (.ref s.u) h = .ok (.ref n) h := fldG_ok (v.at' cu) (by decide) rfl
theorem turn_r (v : V h (cells n s)) {d : Deed} {D0 : D} (p : m__perform [.ref n, d.enc] h = .ok .non k) : b_replay_1 [some D0, some (.ref s.u), some d.enc] h = .ok (.next [some D0, some (.ref s.u), some d.enc]) k := by
  unfold b_replay_1
  simp [f_store v, p]
def putG (k : MH) (dl : Nat) (due : List Evt) : Option Evt → MH
  | none => k
  | some e => k.set dl (.lst ((due ++ [e]).map evD))
theorem turn_l {d : Deed} {o : Option Evt} {a0 a1 a2 a3 a4 a8 : Option D} {dl : Nat} {due : List Evt} (e : m__law_entry [.ref m, d.enc] g = .ok (res o) k) (hk : k[dl]? = some (.lst (due.map evD))) (hl : due.length ≤ 100000) : ∃ y, b_law_2 [a0, a1, a2, a3, a4, some (.ref m), some (.ref dl), some d.enc, a8, none, none] g =
    .ok (.next [a0, a1, a2, a3, a4, some (.ref m), some (.ref dl), some d.enc, y, none, none]) (putG k dl due o) := by
  unfold b_law_2
  cases o with
  | none =>
    refine ⟨some .non, ?_⟩
    simp [e, res, putG, show MM.isNon D.non = true from rfl]
  | some ev =>
    refine ⟨some (evD ev), ?_⟩
    have l := lst?_of hk
    have ty := isTy_ref (T := "list") l
    have ap : fAppend (.ref dl) [evD ev] k = .ok .non (k.set dl (.lst ((due ++ [ev]).map evD))) := by
      unfold fAppend
      simp only [l]
      rw [if_pos (by simp; omega)]
      simp
    show _ = SR.ok _ (k.set dl (.lst ((due ++ [ev]).map evD)))
    generalize k.set dl (.lst ((due ++ [ev]).map evD)) = K at ap ⊢
    have e' : m__law_entry [.ref m, d.enc] g = .ok (evD ev) k := e
    simp [e', ty, ap, show MM.isNon (evD ev) = false from rfl]
structure Loop (h g : MH) (n : Nat) (s : Sto) (m : Nat) (M : Mod) (i dl : Nat) (due : List Evt) (h' g' : MH) (s' : Sto) (M' : Mod) (es : List Evt) (j : Nat) : Prop where
  z : Sd h' g' n s' m M' (i + j)
  log : s'.log = s.log ++ es
  lg : s'.lg = s.lg
  u : s'.u = s.u
  fs : Fw (ca_ n s) (ca_ n s') h h'
  le : g.length ≤ g'.length
  keep : ∀ p : Nat, p < g.length → p ∉ ma_ m M → p ≠ dl → g'[p]? = g[p]?
  due : g'[dl]? = some (.lst ((due ++ es).map evD))
  eok : ∀ e ∈ es, EOk e
  len : es.length ≤ j
theorem loops {D0 : D} {a0 a1 a3 a4 : Option D} {q dl : Nat} {L : List D} : ∀ (ds : List Deed) (i : Nat) (h g : MH) (s : Sto) (M : Mod) (due : List Evt) (x2 x7 x8 : Option D), (∀ d ∈ ds, d.Fit) → i + ds.length ≤ 1000 → Sd h g n s m M i → g[dl]? = some (.lst (due.map evD)) → dl ∉ ma_ m M → due.length ≤ i →
    g[q]? = some (.lst L) → q ∉ ma_ m M → q ≠ dl → ∃ h' g' s' M' es y2 y7 y8,
    MM.forM (fun _ => True) (mgName 2) b_replay_1 (ds.map Deed.enc) [some D0, some (.ref s.u), x2] h = .ok (.next [some D0, some (.ref s.u), y2]) h' ∧
    MM.forM (fun h' => lstD (.ref q) h' = some L) (mgName 7) b_law_2 (ds.map Deed.enc) [a0, a1, some (.ref q), a3, a4, some (.ref m), some (.ref dl), x7, x8, none, none] g = .ok (.next [a0, a1, some (.ref q), a3, a4, some (.ref m), some (.ref dl), y7, y8, none, none]) g' ∧
    Loop h g n s m M i dl due h' g' s' M' es ds.length
  | [], i, h, g, s, M, due, x2, x7, x8, _, _, Z, hd, hn, hl, hq, hq2, hq3 => by
    refine ⟨h, g, s, M, [], x2, x7, x8, by rw [List.map_nil, MM.forM, if_pos trivial], ?_, ⟨Z, by simp, rfl, rfl, Fw.refl _ _, Nat.le_refl _, fun _ _ _ _ => rfl, by simpa using hd, fun _ z => (List.not_mem_nil z).elim, Nat.le_refl _⟩⟩
    rw [List.map_nil, MM.forM, if_pos (by rw [lstD_ref]; exact lst?_of hq)]
  | d :: ds, i, h, g, s, M, due, x2, x7, x8, hf, hi, Z, hd, hn, hl, hq, hq2, hq3 => by
    obtain ⟨o, h1, g1, s1, M1, O⟩ := step (hf d (by simp)) Z (by simp at hi; omega)
    have ldl := (List.getElem?_eq_some_iff.mp hd).1
    have lq := (List.getElem?_eq_some_iff.mp hq).1
    have hd1 : g1[dl]? = some (.lst (due.map evD)) := by rw [O.fm.keep dl ldl hn]; exact hd
    have hq1 : g1[q]? = some (.lst L) := by rw [O.fm.keep q lq hq2]; exact hq
    obtain ⟨y, e2⟩ := turn_l (a0 := a0) (a1 := a1) (a2 := some (.ref q)) (a3 := a3) (a4 := a4) (a8 := x8) O.e hd1 (by omega)
    have hn1 : dl ∉ ma_ m M1 := fun z => (O.fm.new dl z).elim hn fun z => by omega
    have hq21 : q ∉ ma_ m M1 := fun z => (O.fm.new q z).elim hq2 fun z => by omega
    have ldl1 := (List.getElem?_eq_some_iff.mp hd1).1
    -- the law's list
    have gg : ∃ g2, putG g1 dl due o = g2 ∧ g2.length = g1.length ∧ (∀ p : Nat, p ≠ dl → g2[p]? = g1[p]?) ∧ g2[dl]? = some (.lst ((due ++ o.toList).map evD)) := by
      cases o with
      | none => exact ⟨g1, rfl, rfl, fun _ _ => rfl, by simpa using hd1⟩
      | some e => exact ⟨_, rfl, List.length_set .., fun p hp => List.getElem?_set_ne (fun z => hp z.symm), by show (g1.set dl (.lst ((due ++ [e]).map evD)))[dl]? = _; rw [List.getElem?_set_self ldl1]; rfl⟩
    obtain ⟨g2, eg, lg2, kg2, dg2⟩ := gg
    rw [eg] at e2
    have vm2 : V g2 (mcells m M1) := fun p hp => by
      rw [kg2 p.1 (fun z => hn1 (z ▸ List.mem_map_of_mem (f := (·.1)) hp))]; exact O.z.b.vm p hp
    have Z2 : Sd h1 g2 n s1 m M1 (i + 1) := ⟨⟨O.z.b.vs, O.z.b.ok, vm2, O.z.b.mo, O.z.b.sim⟩, O.z.ol, O.z.pl, O.z.ll⟩
    have lo : o.toList.length ≤ 1 := by cases o <;> simp
    obtain ⟨h', g', s', M', es, y2, y7, y8, r1, r2, R⟩ := loops (D0 := D0) (a0 := a0) (a1 := a1) (a3 := a3) (a4 := a4) (q := q) (dl := dl) (L := L) ds (i + 1) h1 g2 s1 M1 (due ++ o.toList) (some d.enc) (some d.enc) y (fun x hx => hf x (by simp [hx])) (by simp at hi; omega) Z2 dg2 hn1 (by rw [List.length_append]; omega) (by rw [kg2 q hq3]; exact hq1) hq21 hq3
    rw [O.u] at r1
    refine ⟨h', g', s', M', o.toList ++ es, y2, y7, y8, ?_, ?_, ⟨by have := R.z; rw [List.length_cons]; rwa [show i + (ds.length + 1) = i + 1 + ds.length by omega], by rw [R.log, O.log, List.append_assoc], R.lg.trans O.lg, R.u.trans O.u, O.fs.trans R.fs, by have := R.le; have := O.fm.le; omega, fun p hp hpm hpd => ?_, by have := R.due; rwa [List.append_assoc] at this, fun e he => ?_, by have := R.len; rw [List.length_append, List.length_cons]; omega⟩⟩
    · rw [List.map_cons, forM_next trivial (show mgName 2 d.enc [some D0, some (.ref s.u), x2] = some [some D0, some (.ref s.u), some d.enc] from rfl) (turn_r Z.b.vs O.p)]
      exact r1
    · rw [List.map_cons, forM_next (by rw [lstD_ref]; exact lst?_of hq) (show mgName 7 d.enc [a0, a1, some (.ref q), a3, a4, some (.ref m), some (.ref dl), x7, x8, none, none] = some [a0, a1, some (.ref q), a3, a4, some (.ref m), some (.ref dl), some d.enc, x8, none, none] from rfl) e2]
      exact r2
    · have p1 : p ∉ ma_ m M1 := fun z => (O.fm.new p z).elim hpm fun z => by omega
      rw [R.keep p (by have := O.fm.le; omega) p1 hpd, kg2 p hpd, O.fm.keep p hp hpm]
    · rcases List.mem_append.mp he with z | z
      · cases o with
        | none => cases z
        | some e0 =>
          have : e = e0 := by simpa using z
          rw [this]; exact O.eok e0 rfl
      · exact R.eok e z
end
end K51
namespace K51
open PySem PySem.Spec PyProof.Rows L2 MM
section
variable {h G : MH}
def waN (k : Nat) : MO := .ins "Watch" [("store", .ref k), ("log", .ref (k + 5)), ("is_on", .bl false)]
theorem watch_init {k : Nat} : m_Watch___init__ [.ref h.length, .ref k] (h ++ [.ins "Watch" []]) = .ok .non (h ++ [.ins "Watch" [("store", .ref k), ("log", .ref (h.length + 1)), ("is_on", .bl false)], .lst []]) := by
  show mFnN 2 2 b_Watch___init__ _ _ = _
  rw [mFnN_eq (by rfl)]
  show mEndN (b_Watch___init__ [some (.ref h.length), some (.ref k)] (h ++ [.ins "Watch" []])) = _
  have st : ∀ (f : Str) (m : ME) (x : D) (fs : List (Str × D)) (g g' : MH), fs.length < 1000 → m [some (.ref h.length), some (.ref k)] (h ++ .ins "Watch" fs :: g) = .ok x (h ++ .ins "Watch" fs :: g') → mFldS ["Watch"] f m (mVar 0) [some (.ref h.length), some (.ref k)] (h ++ .ins "Watch" fs :: g) = .ok (.next [some (.ref h.length), some (.ref k)]) (h ++ .ins "Watch" (putFD f x fs) :: g') := fun f m x fs g g' hl em => by
    rw [mFldS_ok (C := "Watch") (k := h.length) (x := x) (h1 := h ++ .ins "Watch" fs :: g') (h2 := h ++ .ins "Watch" fs :: g') (fs := fs) em rfl at_end0 (by decide) hl]
    simp
  unfold b_Watch___init__
  rw [mSeq_eq, st "store" _ (.ref k) [] [] [] (by decide) rfl, SR.seq_next, mSeq_eq, st "log" _ (.ref (h.length + 1)) _ [] [.lst []] (by show _ + 0 < 1000; repeat (first | (simp; done) | refine putFD_lt ?_)) (by simp), SR.seq_next,
    st "is_on" _ (.bl false) _ [.lst []] [.lst []] (by show _ + 0 < 1000; repeat (first | (simp; done) | refine putFD_lt ?_)) rfl]
  rfl
def H0 (G : MH) : MH := G ++ stO (sto0 G.length) :: .lst [] :: .lst [] :: .dic [] :: wO G.length (sto0 G.length) :: .lst [] :: [.lst []]
theorem made {δ : MS} : mMake "Watch" m_Watch___init__ (mCons (mMake "Store" m_Store___init__ mNil) mNil) δ G = .ok (.ref (G.length + 4)) (G ++ [stN G.length, .lst [], .lst [], .dic [], waN G.length, .lst []]) := by
  rw [mMake_eq, mCons_eq, store_made, R.bnd_ok, mNil_eq, R.bnd_ok, R.bnd_ok]
  unfold mkD
  have l : (G ++ [stN G.length, .lst [], .lst [], .dic []]).length = G.length + 4 := by simp
  have e := watch_init (h := G ++ [stN G.length, .lst [], .lst [], .dic []]) (k := G.length)
  rw [l] at e
  rw [l, e, R.bnd_ok]
  simp [waN]
theorem entered : m_Watch___enter__ [.ref (G.length + 4)] (G ++ [stN G.length, .lst [], .lst [], .dic [], waN G.length, .lst []]) = .ok (.ref (G.length + 4)) (H0 G) := by
  show mFnN 1 1 b_Watch___enter__ _ _ = _
  rw [mFnN_eq (by rfl)]
  show mEndN (b_Watch___enter__ [some (.ref (G.length + 4))] _) = _
  have e1 : mFldS ["Watch"] "log" (mLstN mNil) (mVar 0) [some (.ref (G.length + 4))] (G ++ [stN G.length, .lst [], .lst [], .dic [], waN G.length, .lst []]) =
      .ok (.next [some (.ref (G.length + 4))]) (G ++ [stN G.length, .lst [], .lst [], .dic [], .ins "Watch" [("store", .ref G.length), ("log", .ref (G.length + 6)), ("is_on", .bl false)], .lst [], .lst []]) := by
    rw [mFldS_ok (C := "Watch") (k := G.length + 4) (x := .ref (G.length + 6)) (h1 := G ++ [stN G.length, .lst [], .lst [], .dic [], waN G.length, .lst [], .lst []]) (h2 := G ++ [stN G.length, .lst [], .lst [], .dic [], waN G.length, .lst [], .lst []]) (fs := [("store", .ref G.length), ("log", .ref (G.length + 5)), ("is_on", .bl false)]) (by simp) rfl (by simp [waN]) (by decide) (by simp)]
    simp
    rfl
  have e2 : mFldS ["Watch"] "is_on" (mC (.bl true)) (mVar 0) [some (.ref (G.length + 4))] (G ++ [stN G.length, .lst [], .lst [], .dic [], .ins "Watch" [("store", .ref G.length), ("log", .ref (G.length + 6)), ("is_on", .bl false)], .lst [], .lst []]) =
      .ok (.next [some (.ref (G.length + 4))]) (G ++ [stN G.length, .lst [], .lst [], .dic [], wO G.length (sto0 G.length), .lst [], .lst []]) := by
    rw [mFldS_ok (C := "Watch") (k := G.length + 4) (x := .bl true) (h1 := G ++ [stN G.length, .lst [], .lst [], .dic [], .ins "Watch" [("store", .ref G.length), ("log", .ref (G.length + 6)), ("is_on", .bl false)], .lst [], .lst []]) (h2 := G ++ [stN G.length, .lst [], .lst [], .dic [], .ins "Watch" [("store", .ref G.length), ("log", .ref (G.length + 6)), ("is_on", .bl false)], .lst [], .lst []]) (fs := [("store", .ref G.length), ("log", .ref (G.length + 6)), ("is_on", .bl false)]) rfl rfl (by simp) (by decide) (by simp)]
    simp
    rfl
  have e3 : mFldS ["Store"] "watch" (mVar 0) (mFld ["Watch"] "store" (mVar 0)) [some (.ref (G.length + 4))] (G ++ [stN G.length, .lst [], .lst [], .dic [], wO G.length (sto0 G.length), .lst [], .lst []]) =
      .ok (.next [some (.ref (G.length + 4))]) (H0 G) := by
    have f : fldG ["Watch"] "store" (.ref (G.length + 4)) (G ++ [stN G.length, .lst [], .lst [], .dic [], wO G.length (sto0 G.length), .lst [], .lst []]) = .ok (.ref G.length) _ := fldG_ok (C := "Watch") (fs := [("store", .ref G.length), ("log", .ref (G.length + 6)), ("is_on", .bl true)]) (by simp [wO, sto0]) (by decide) rfl
    rw [mFldS_ok (C := "Store") (k := G.length) (x := .ref (G.length + 4)) (h1 := G ++ [stN G.length, .lst [], .lst [], .dic [], wO G.length (sto0 G.length), .lst [], .lst []]) (h2 := G ++ [stN G.length, .lst [], .lst [], .dic [], wO G.length (sto0 G.length), .lst [], .lst []]) (fs := [("words", .ref (G.length + 1)), ("owners", .ref (G.length + 2)), ("regions", .ref (G.length + 3)), ("begun", .int 0), ("total", .int 0), ("free", .int 0), ("watch", .non)]) rfl (by rw [mFld_eq, mVar_eq (show _ = some (some (D.ref (G.length + 4))) from rfl), R.bnd_ok]; exact f) (by simp [stN]) (by decide) (by simp)]
    simp [H0]
    rfl
  unfold b_Watch___enter__
  rw [mSeq_eq, e1, SR.seq_next, mSeq_eq, e2, SR.seq_next, mSeq_eq, e3, SR.seq_next]
  rfl
theorem left_ {n : Nat} {s : Sto} (v : V h (cells n s)) : m_Watch___exit__ [.ref s.u, .non, .non, .non] h = .ok .non (h.set s.u (.ins "Watch" [("store", .ref n), ("log", .ref s.lg), ("is_on", .bl false)])) := by
  show mFn 4 4 b_Watch___exit__ _ _ = _
  rw [mFn_eq (by rfl)]
  show mEnd h (b_Watch___exit__ [some (.ref s.u), some .non, some .non, some .non] h) = _
  have e : b_Watch___exit__ [some (.ref s.u), some .non, some .non, some .non] h = .ok (.next [some (.ref s.u), some .non, some .non, some .non]) (h.set s.u (.ins "Watch" [("store", .ref n), ("log", .ref s.lg), ("is_on", .bl false)])) := by
    unfold b_Watch___exit__
    rw [mFldS_ok (C := "Watch") (k := s.u) (x := .bl false) (h1 := h) (h2 := h) (fs := [("store", .ref n), ("log", .ref s.lg), ("is_on", .bl true)]) rfl rfl (v.at' cu) (by decide) (by simp)]
    rfl
  rw [e]
  show leave h .non _ = _
  have lf : LeftOf h (h.set s.u (.ins "Watch" [("store", .ref n), ("log", .ref s.lg), ("is_on", .bl false)])) := by
    refine ⟨by rw [List.length_set]; exact Nat.le_refl _, fun i o hi ho => ?_⟩
    by_cases z : s.u = i
    · subst z
      rw [List.getElem?_set_self hi] at ho
      cases ho
      have ln := v.lt (cn (n := n) (s := s))
      have ll := v.lt (cl (n := n) (s := s))
      exact .inr (by simp [MO.lows, D.lows, ln, ll])
    · rw [List.getElem?_set_ne z] at ho
      exact .inl ho
  rw [leave_eq lf rfl, List.take_of_length_le (by rw [List.length_set]; exact Nat.le_refl _)]
end
end K51
namespace K51
open PySem PySem.Spec PyProof.Rows L2 MM
section
variable {h : MH} {q : Nat} {s : DS} {many : Int}
theorem ds_put {j : Nat} {x : D} (e : h[q]? = some s.enc) (hj : j < 4) : setG2 (.ref q) (.int (j : Int)) x h = some (h.set q (.lst ([D.rol (s.cells.map .int), .int s.rest, .int s.at', .int s.seed].set j x))) := by
  have := set_ok (DS.lst e) (i := (j : Int)) (d := x) (by omega) (by simp; omega) (by simp)
  rw [Int.toNat_natCast] at this
  exact this
theorem ds_at {o : MO} (e : h[q]? = some s.enc) : (h.set q o)[q]? = some o := List.getElem?_set_self (List.getElem?_eq_some_iff.mp e).1
theorem draw51 (e : h[q]? = some s.enc) (ok : s.Ok) (h0 : 0 < many) (h1 : many < 2 ^ 64) :
    ∃ (v : Int) (s' : DS), (0 ≤ v ∧ v < many) ∧ s'.Ok ∧ m__law_draw [.ref q, .int many] h = .ok (.int v) (h.set q s'.enc) := by
  have go : ∀ (v : Int) (s' : DS), s'.Ok → b__law_draw [some (.ref q), some (.int many), none] h = .ok (.ret (.int (v % many))) (h.set q s'.enc) → ∃ (v : Int) (s' : DS), (0 ≤ v ∧ v < many) ∧ s'.Ok ∧ m__law_draw [.ref q, .int many] h = .ok (.int v) (h.set q s'.enc) := fun v s' o r =>
    ⟨v % many, s', ⟨Int.emod_nonneg _ (by omega), Int.emod_lt_of_pos _ h0⟩, o, mFn_ret (g := []) rfl r (by rw [List.append_nil]) (List.length_set ..) ((LeftOf.refl h).set (.inl (s'.enc_lows _))) rfl⟩
  have dv : ∀ (i : Int) (k : MH), opDiv (.int i) (.int many) k = .ok (.int (i / many)) k := fun i k => opDiv_int h0 h1
  have dm : ∀ (i : Int) (k : MH), opMod (.int i) (.int many) k = .ok (.int (i % many)) k := fun i k => if_pos h0
  have y0 := DS.ix0 e
  have y1 := DS.ix1 e
  have y2 := DS.ix2 e
  have y3 := DS.ix3 e
  by_cases c1 : s.rest = 0
  · by_cases c2 : (s.cells.length : Int) ≤ s.at'
    · have lg : s.seed.natAbs.log2 + (48271 : Int).natAbs.log2 < 1000000 := by
        have := log_le ok.s0 ok.s1
        have : (48271 : Int).natAbs.log2 = 15 := by decide
        omega
      have b1 := Int.emod_nonneg (s.seed * 48271 + 69621) (show (2147483629 : Int) ≠ 0 by omega)
      have b2 := Int.emod_lt_of_pos (s.seed * 48271 + 69621) (show (0 : Int) < 2147483629 by omega)
      have p3 := ds_put (j := 3) (x := .int ((s.seed * 48271 + 69621) % 2147483629)) e (by decide)
      have x3 := DS.ix3 (s := { s with seed := (s.seed * 48271 + 69621) % 2147483629 }) (ds_at (o := { s with seed := (s.seed * 48271 + 69621) % 2147483629 }.enc) e)
      refine go ((s.seed * 48271 + 69621) % 2147483629 / 13) { s with seed := (s.seed * 48271 + 69621) % 2147483629 } ⟨ok.a0, b1, by show _ % _ ≤ _; omega⟩ ?_
      have p3' : setG2 (.ref q) (.int 3) (.int ((s.seed * 48271 + 69621) % 2147483629)) h = some (h.set q { s with seed := (s.seed * 48271 + 69621) % 2147483629 }.enc) := p3
      have x3' : opIx (.ref q) (.int 3) (h.set q { s with seed := (s.seed * 48271 + 69621) % 2147483629 }.enc) = .ok (.int ((s.seed * 48271 + 69621) % 2147483629)) (h.set q { s with seed := (s.seed * 48271 + 69621) % 2147483629 }.enc) := x3
      have d13 : ∀ (i : Int) (k : MH), opDiv (.int i) (.int 13) k = .ok (.int (i / 13)) k := fun i k => opDiv_int (by omega) (by decide)
      generalize h.set q { s with seed := (s.seed * 48271 + 69621) % 2147483629 }.enc = H1 at p3' x3' ⊢
      unfold b__law_draw
      simp [y0, y1, y2, y3, c1, c2, mSetIx2, opMul_int lg, p3', x3', d13, dm]
    · have hlt : s.at'.toNat < s.cells.length := by have := ok.a0; omega
      have ei : opIx (.rol (s.cells.map .int)) (.int s.at') h = .ok (.int s.cells[s.at'.toNat]) h := opIx_of (by
        rw [ixG_rol]
        exact atI_ok ok.a0 (by rw [List.getElem?_map, List.getElem?_eq_getElem hlt]; rfl))
      generalize s.cells[s.at'.toNat] = c at ei
      have e1 := ds_at (o := { s with rest := if c < 0 then -c else c }.enc) e
      have p1 : setG2 (.ref q) (.int 1) (.int (if c < 0 then -c else c)) h = some (h.set q { s with rest := if c < 0 then -c else c }.enc) := ds_put (s := s) (j := 1) (x := .int (if c < 0 then -c else c)) e (by decide)
      have x2 := DS.ix2 e1
      have p2 : setG2 (.ref q) (.int 2) (.int (s.at' + 1)) (h.set q { s with rest := if c < 0 then -c else c }.enc) = some ((h.set q { s with rest := if c < 0 then -c else c }.enc).set q { s with rest := if c < 0 then -c else c, at' := s.at' + 1 }.enc) := ds_put (s := { s with rest := if c < 0 then -c else c }) (j := 2) (x := .int (s.at' + 1)) e1 (by decide)
      have e2 := ds_at (o := { s with rest := if c < 0 then -c else c, at' := s.at' + 1 }.enc) e1
      have x1 := DS.ix1 e2
      have p3 : setG2 (.ref q) (.int 1) (.int ((if c < 0 then -c else c) / many)) ((h.set q { s with rest := if c < 0 then -c else c }.enc).set q { s with rest := if c < 0 then -c else c, at' := s.at' + 1 }.enc) = some (((h.set q { s with rest := if c < 0 then -c else c }.enc).set q { s with rest := if c < 0 then -c else c, at' := s.at' + 1 }.enc).set q { s with rest := (if c < 0 then -c else c) / many, at' := s.at' + 1 }.enc) := ds_put (s := { s with rest := if c < 0 then -c else c, at' := s.at' + 1 }) (j := 1) (x := .int ((if c < 0 then -c else c) / many)) e2 (by decide)
      refine go (if c < 0 then -c else c) { s with rest := (if c < 0 then -c else c) / many, at' := s.at' + 1 } ⟨by show 0 ≤ s.at' + 1; have := ok.a0; omega, ok.s0, ok.s1⟩ ?_
      have x2' : opIx (.ref q) (.int 2) (h.set q { s with rest := if c < 0 then -c else c }.enc) = .ok (.int s.at') (h.set q { s with rest := if c < 0 then -c else c }.enc) := x2
      have x1' : opIx (.ref q) (.int 1) ((h.set q { s with rest := if c < 0 then -c else c }.enc).set q { s with rest := if c < 0 then -c else c, at' := s.at' + 1 }.enc) = .ok (.int (if c < 0 then -c else c)) ((h.set q { s with rest := if c < 0 then -c else c }.enc).set q { s with rest := if c < 0 then -c else c, at' := s.at' + 1 }.enc) := x1
      have hs : ((h.set q { s with rest := if c < 0 then -c else c }.enc).set q { s with rest := if c < 0 then -c else c, at' := s.at' + 1 }.enc).set q { s with rest := (if c < 0 then -c else c) / many, at' := s.at' + 1 }.enc = h.set q { s with rest := (if c < 0 then -c else c) / many, at' := s.at' + 1 }.enc := by
        rw [List.set_set, List.set_set]
      rw [hs] at p3
      generalize h.set q { s with rest := (if c < 0 then -c else c) / many, at' := s.at' + 1 }.enc = H3 at p3 ⊢
      generalize (h.set q { s with rest := if c < 0 then -c else c }.enc).set q { s with rest := if c < 0 then -c else c, at' := s.at' + 1 }.enc = H2 at p2 x1' p3
      generalize h.set q { s with rest := if c < 0 then -c else c }.enc = H1 at p1 x2' p2
      have fa : fAbs [.int c] h = .ok (.int (if c < 0 then -c else c)) h := rfl
      generalize (if c < 0 then -c else c) = r at fa p1 x1' p3 ⊢
      unfold b__law_draw
      simp [y0, y1, y2, c1, c2, mSetIx2, ei, fa, p1, x2', p2, x1', dm, dv, p3]
  · have p1 : setG2 (.ref q) (.int 1) (.int (s.rest / many)) h = some (h.set q { s with rest := s.rest / many }.enc) := ds_put (s := s) (j := 1) (x := .int (s.rest / many)) e (by decide)
    refine go s.rest { s with rest := s.rest / many } ⟨ok.a0, ok.s0, ok.s1⟩ ?_
    generalize h.set q { s with rest := s.rest / many }.enc = H1 at p1 ⊢
    unfold b__law_draw
    simp [y1, c1, mSetIx2, dm, dv, p1]
end
end K51
namespace K51
open PySem PySem.Spec PyProof.Rows L2 MM
def D0 (h : MH) : Prop := ∃ ds : DS, h[0]? = some ds.enc ∧ ds.Ok
def D1 (h k : MH) : Prop := ∃ ds : DS, ds.Ok ∧ k = h.set 0 ds.enc
section
variable {h k g : MH} {n m q : Nat} {s : Sto} {M : Mod} {cs : List (Nat × MO)} {many : Int} {kn : List Int}
theorem D0.lt (d : D0 h) : 0 < h.length := let ⟨_, e, _⟩ := d; (List.getElem?_eq_some_iff.mp e).1
theorem D1.d0 (a : D0 h) (d : D1 h k) : D0 k := by
  obtain ⟨ds, o, rfl⟩ := d
  exact ⟨ds, List.getElem?_set_self a.lt, o⟩
theorem D1.trans (d : D1 h k) (d' : D1 k g) : D1 h g := by
  obtain ⟨ds, o, rfl⟩ := d
  obtain ⟨ds', o', rfl⟩ := d'
  exact ⟨ds', o', List.set_set ..⟩
theorem D1.keep (d : D1 h k) {i : Nat} (hi : i ≠ 0) : k[i]? = h[i]? := by
  obtain ⟨ds, o, rfl⟩ := d
  exact List.getElem?_set_ne (Ne.symm hi)
theorem D1.len (d : D1 h k) : k.length = h.length := by
  obtain ⟨ds, o, rfl⟩ := d
  exact List.length_set ..
theorem D1.v (d : D1 h k) (v : V h cs) (h0 : 0 ∉ cs.map (·.1)) : V k cs := fun p hp => by
  rw [d.keep (fun z => h0 (by rw [← z]; exact List.mem_map_of_mem (f := (·.1)) hp))]
  exact v p hp
theorem drw (a : D0 h) (h0 : 0 < many) (h1 : many < 2 ^ 64) : ∃ (v : Int) (k : MH), (0 ≤ v ∧ v < many) ∧ D1 h k ∧ m__law_draw [.ref 0, .int many] h = .ok (.int v) k := by
  obtain ⟨ds, e, o⟩ := a
  obtain ⟨v, ds', hv, o', r⟩ := draw51 e o h0 h1
  exact ⟨v, _, hv, ⟨ds', o', rfl⟩, r⟩
theorem fn_d1 {a N : Nat} {ms : MSt} {ds : List D} {d : D} (el : ds.length = a) (r : ms (mStart N ds) h = .ok (.ret d) k) (d1 : D1 h k) (q : d.lows h.length = true) : mFn a N ms ds h = .ok d k := by
  obtain ⟨s', o, rfl⟩ := d1
  exact mFn_ret (g := []) el r (by rw [List.append_nil]) (List.length_set ..) ((LeftOf.refl h).set (.inl (s'.enc_lows _))) q
theorem start51 {ns : List Int} : ∃ ds : DS, ds.Ok ∧ m__law_start [.rol (ns.map D.int)] [] = .ok (.ref 0) [ds.enc] := by
  obtain ⟨ds, o, _, e⟩ := start_ok (ns := ns) (h := [])
  exact ⟨ds, o, e⟩
end
end K51
namespace K51
open PySem PySem.Spec PyProof.Rows L2 MM
section
variable {h g G : MH}
theorem h0_v : V (H0 G) (cells G.length (sto0 G.length)) := store_v (g := [])
theorem fw0 {A' : List Nat} {h' : MH} (f : Fw (ca_ G.length (sto0 G.length)) A' (H0 G) h') : G.length ≤ h'.length ∧ ∀ i : Nat, i < G.length → h'[i]? = G[i]? := by
  have l : (H0 G).length = G.length + 7 := by simp [H0]
  refine ⟨by have := f.le; omega, fun i hi => ?_⟩
  rw [f.keep i (by omega) (fun z => by
    simp [ca_, cells, sto0, stK] at z
    omega)]
  unfold H0
  rw [List.getElem?_append_left hi]
theorem replay_ok {ds : List Deed} {h' : MH} {s' : Sto} {es : List Evt} {y : Option D} (r : MM.forM (fun _ => True) (mgName 2) b_replay_1 (ds.map Deed.enc) [some (.rol (ds.map Deed.enc)), some (.ref (sto0 G.length).u), none] (H0 G) = .ok (.next [some (.rol (ds.map Deed.enc)), some (.ref (sto0 G.length).u), y]) h')
    (v : V h' (cells G.length s')) (el : s'.log = es) (eu : s'.u = (sto0 G.length).u) (f : Fw (ca_ G.length (sto0 G.length)) (ca_ G.length s') (H0 G) h') :
    ∃ p K, m_replay [.rol (ds.map Deed.enc)] G = .ok (.ref p) K ∧ K[p]? = some (.lst (es.map evD)) ∧ G.length ≤ p ∧ G.length ≤ K.length ∧ ∀ i : Nat, i < G.length → K[i]? = G[i]? := by
  obtain ⟨f1, f2⟩ := fw0 f
  have gu : G.length ≤ s'.u := by rw [eu]; show G.length ≤ G.length + 4; omega
  let h2 : MH := h'.set s'.u (.ins "Watch" [("store", .ref G.length), ("log", .ref s'.lg), ("is_on", .bl false)])
  have l2 : h2.length = h'.length := List.length_set ..
  have dj := v
  have lu := v.lt (cu (n := G.length) (s := s'))
  have at_u : h2[s'.u]? = some (.ins "Watch" [("store", .ref G.length), ("log", .ref s'.lg), ("is_on", .bl false)]) := List.getElem?_set_self lu
  refine ⟨h'.length, h2 ++ [.lst (es.map evD)], ?_, ?_, f1, ?_, fun i hi => ?_⟩
  · show mFnN 1 3 b_replay _ _ = _
    rw [mFnN_eq (by rfl)]
    show mEndN (b_replay [some (.rol (ds.map Deed.enc)), none, none] G) = _
    have lf : mFor (mSrc (mVar 0)) (mgName 2) b_replay_1 [some (.rol (ds.map Deed.enc)), some (.ref (G.length + 4)), none] (H0 G) = .ok (.next [some (.rol (ds.map Deed.enc)), some (.ref (G.length + 4)), y]) h' := r
    have ex := left_ v
    rw [eu] at ex
    have w : mWith "Watch" m_Watch___enter__ m_Watch___exit__ (mMake "Watch" m_Watch___init__ (mCons (mMake "Store" m_Store___init__ mNil) (mNil))) (mgName 1) (mFor (mSrc (mVar 0)) (mgName 2) (b_replay_1)) [some (.rol (ds.map Deed.enc)), none, none] G = .ok (.next [some (.rol (ds.map Deed.enc)), some (.ref (G.length + 4)), y]) h2 := by
      unfold mWith
      rw [made, R.st_ok]
      have io : insO (G ++ [stN G.length, .lst [], .lst [], .dic [], waN G.length, .lst []]) (.ref (G.length + 4)) = some (G.length + 4, ("Watch" : Str), ([("store", .ref G.length), ("log", .ref (G.length + 5)), ("is_on", .bl false)] : List (Str × D))) := insO_ref (by simp [waN])
      simp only [io, if_true]
      rw [entered, R.st_ok]
      have gn : mgName 1 (.ref (G.length + 4)) [some (.rol (ds.map Deed.enc)), none, none] = some [some (.rol (ds.map Deed.enc)), some (.ref (G.length + 4)), none] := rfl
      simp only [gn, lf]
      have ex' : m_Watch___exit__ [.ref (G.length + 4), .non, .non, .non] h' = .ok .non h2 := by
        show _ = R.ok D.non (h'.set s'.u _)
        rw [eu]; exact ex
      rw [ex', R.st_ok]
    have fl : fldG ["Watch"] "log" (.ref (G.length + 4)) h2 = .ok (.ref s'.lg) h2 := fldG_ok (C := "Watch") (fs := [("store", .ref G.length), ("log", .ref s'.lg), ("is_on", .bl false)]) (by
      have := at_u
      rw [eu] at this
      have e4 : (sto0 G.length).u = G.length + 4 := rfl
      rw [e4] at this
      exact this) (by decide) rfl
    have ll : lst? h2 s'.lg = some (es.map evD) := by
      refine lst?_of ?_
      show (h'.set s'.u _)[s'.lg]? = _
      by_cases z : s'.u = s'.lg
      · have a := v.at' (cu (n := G.length) (s := s'))
        have b := v.at' (cl (n := G.length) (s := s'))
        rw [z, b] at a
        cases a
      · rw [List.getElem?_set_ne z, v.at' (cl (n := G.length) (s := s')), el]
    have fN : fListN [.ref s'.lg] h2 = .ok (.ref h2.length) (h2 ++ [.lst (es.map evD)]) := by
      unfold fListN
      simp only [seqG_ref, ll]
    unfold b_replay
    rw [mSeq_eq, w, SR.seq_next]
    have rt : mRet (mCall fListN (mCons (mFld ["Watch"] "log" (mVar 1)) (mNil))) [some (.rol (ds.map Deed.enc)), some (.ref (G.length + 4)), y] h2 = .ok (.ret (.ref h2.length)) (h2 ++ [.lst (es.map evD)]) := by
      clear_value h2
      simp [fl, fN]
    rw [rt, l2]
    rfl
  · rw [List.getElem?_append_right (by omega), l2, Nat.sub_self]; rfl
  · rw [List.length_append]; omega
  · rw [List.getElem?_append_left (by omega)]
    show (h'.set s'.u _)[i]? = _
    rw [List.getElem?_set_ne (by omega), f2 i hi]
end
end K51
namespace K51
open PySem PySem.Spec PyProof.Rows L2 MM
section
variable {h g k : MH}
theorem drawn {δ : MS} {m : ME} {v : Int} {q : Int} (h0 : δ[0]? = some (some (.ref 0))) (hm : m δ h = .ok (.int q) h) (e : m__law_draw [.ref 0, .int q] h = .ok (.int v) k) : mCall m__law_draw (mCons (mVar 0) (mCons m mNil)) δ h = .ok (.int v) k := by
  rw [mCall_eq, mCons_eq, mVar_eq h0, R.bnd_ok, mCons_eq, hm, R.bnd_ok, mNil_eq, R.bnd_ok, R.bnd_ok, R.bnd_ok, e]
theorem p35 {δ : MS} {h : MH} : mOp opPow (mC (.int 2)) (mC (.int 35)) δ h = .ok (.int (2 ^ 35)) h := rfl
theorem p36 {δ : MS} {h : MH} : mOp opPow (mC (.int 2)) (mC (.int 36)) δ h = .ok (.int (2 ^ 36)) h := rfl
theorem p39 {δ : MS} {h : MH} : mOp opPow (mC (.int 2)) (mC (.int 39)) δ h = .ok (.int (2 ^ 39)) h := rfl
theorem p40 {δ : MS} {h : MH} : mOp opPow (mC (.int 2)) (mC (.int 40)) δ h = .ok (.int (2 ^ 40)) h := rfl
theorem deed_ok (a : D0 h) {many : Nat} (hm : many ≤ 1000) : ∃ (d : Deed) (k : MH), D1 h k ∧ d.Fit ∧ m__law_deed [.ref 0, .int many] h = .ok d.enc k := by
  obtain ⟨v1, h1, b1, d1, e1⟩ := drw a (many := 7) (by decide) (by decide)
  have a1 := D1.d0 a d1
  obtain ⟨v2, h2, b2, d2, e2⟩ := drw a1 (many := (many : Int) + 3) (by omega) (by omega)
  have a2 := D1.d0 a1 d2
  have d12 := d1.trans d2
  have s1 : mSet 2 (mCall m__law_draw (mCons (mVar 0) (mCons (mC (.int 7)) (mNil)))) [some (.ref 0), some (.int many), none, none, none, none] h = .ok (.next [some (.ref 0), some (.int many), some (.int v1), none, none, none]) h1 := by
    rw [mSet_eq, drawn rfl rfl e1]; rfl
  have s2 : mSet 3 (mOp opSub (mCall m__law_draw (mCons (mVar 0) (mCons (mOp opAddL (mVar 1) (mC (.int 3))) (mNil)))) (mC (.int 1))) [some (.ref 0), some (.int many), some (.int v1), none, none, none] h1 = .ok (.next [some (.ref 0), some (.int many), some (.int v1), some (.int (v2 - 1)), none, none]) h2 := by
    rw [mSet_eq, mOp_eq, drawn rfl (rfl : mOp opAddL (mVar 1) (mC (.int 3)) [some (.ref 0), some (.int many), some (.int v1), none, none, none] h1 = .ok (.int ((many : Int) + 3)) h1) e2]; rfl
  have go : ∀ {d : Deed} {k : MH}, D1 h k → d.Fit → b__law_deed [some (.ref 0), some (.int many), none, none, none, none] h = .ok (.ret d.enc) k → ∃ (d : Deed) (k : MH), D1 h k ∧ d.Fit ∧ m__law_deed [.ref 0, .int many] h = .ok d.enc k := fun {d k} dd f r =>
    ⟨d, k, dd, f, fn_d1 rfl r dd (by cases d <;> rfl)⟩
  have f2 : Sml (v2 - 1) := ⟨by omega, by omega⟩
  by_cases c0 : v1 = 0
  · refine go (d := .beg) d12 trivial ?_
    unfold b__law_deed
    rw [mSeq_eq, s1, SR.seq_next, mSeq_eq, s2, SR.seq_next]
    subst c0
    rfl
  have t0 : mIfS (mB (mOp opEq (mVar 2) (mC (.int 0)))) (mRet (mTup (mCons (mC (.str "begin")) (mNil)))) (mNext) [some (.ref 0), some (.int many), some (.int v1), some (.int (v2 - 1)), none, none] h2 = .ok (.next [some (.ref 0), some (.int many), some (.int v1), some (.int (v2 - 1)), none, none]) h2 := by
    simp [c0]
  by_cases c1 : v1 < 3
  · obtain ⟨v3, h3, b3, d3, e3⟩ := drw a2 (many := 10) (by decide) (by decide)
    have a3 := D1.d0 a2 d3
    obtain ⟨v4, h4, b4, d4, e4⟩ := drw a3 (many := 5) (by decide) (by decide)
    have a4 := D1.d0 a3 d4
    obtain ⟨v5, h5, b5, d5, e5⟩ := drw a4 (many := 42) (by decide) (by decide)
    have w3 : mSet 4 (mOp opAddL (mC (.int 1)) (mCall m__law_draw (mCons (mVar 0) (mCons (mC (.int 10)) (mNil))))) [some (.ref 0), some (.int many), some (.int v1), some (.int (v2 - 1)), none, none] h2 = .ok (.next [some (.ref 0), some (.int many), some (.int v1), some (.int (v2 - 1)), some (.int (1 + v3)), none]) h3 := by
      rw [mSet_eq, mOp_eq, mC_eq, R.bnd_ok, drawn rfl rfl e3]; rfl
    have c4 : mB (mOp opEq (mCall m__law_draw (mCons (mVar 0) (mCons (mC (.int 5)) (mNil)))) (mC (.int 1))) [some (.ref 0), some (.int many), some (.int v1), some (.int (v2 - 1)), some (.int (1 + v3)), none] h3 = .ok (decide (v4 = 1)) h4 := by
      rw [mB_eq, mOp_eq, drawn rfl rfl e4, R.bnd_ok, mC_eq, R.bnd_ok]
      by_cases z : v4 = 1 <;> simp [z]
    have w5 : mSet 4 (mOp opSub (mCall m__law_draw (mCons (mVar 0) (mCons (mC (.int 42)) (mNil)))) (mC (.int 1))) [some (.ref 0), some (.int many), some (.int v1), some (.int (v2 - 1)), some (.int (1 + v3)), none] h4 = .ok (.next [some (.ref 0), some (.int many), some (.int v1), some (.int (v2 - 1)), some (.int (v5 - 1)), none]) h5 := by
      rw [mSet_eq, mOp_eq, drawn rfl rfl e5]; rfl
    have tt : mB (mOp opLt (mVar 2) (mC (.int 3))) [some (.ref 0), some (.int many), some (.int v1), some (.int (v2 - 1)), none, none] h2 = .ok true h2 := by simp [c1]
    by_cases z : v4 = 1
    · refine go (d := .cel (v2 - 1) (v5 - 1)) (((d12.trans d3).trans d4).trans d5) ⟨f2, by omega⟩ ?_
      unfold b__law_deed
      rw [mSeq_eq, s1, SR.seq_next, mSeq_eq, s2, SR.seq_next, mSeq_eq, t0, SR.seq_next, mSeq_eq, mIfS_eq, tt, R.st_ok, if_pos rfl, mSeq_eq, w3, SR.seq_next, mSeq_eq, mIfS_eq, c4, R.st_ok, if_pos (by simpa using z), w5, SR.seq_next]
      rfl
    · refine go (d := .cel (v2 - 1) (1 + v3)) ((d12.trans d3).trans d4) ⟨f2, by omega⟩ ?_
      unfold b__law_deed
      rw [mSeq_eq, s1, SR.seq_next, mSeq_eq, s2, SR.seq_next, mSeq_eq, t0, SR.seq_next, mSeq_eq, mIfS_eq, tt, R.st_ok, if_pos rfl, mSeq_eq, w3, SR.seq_next, mSeq_eq, mIfS_eq, c4, R.st_ok, if_neg (by simpa using z)]
      rfl
  have t1 : ∀ {B : MSt}, mIfS (mB (mOp opLt (mVar 2) (mC (.int 3)))) B (mNext) [some (.ref 0), some (.int many), some (.int v1), some (.int (v2 - 1)), none, none] h2 = .ok (.next [some (.ref 0), some (.int many), some (.int v1), some (.int (v2 - 1)), none, none]) h2 := fun {B} => by
    have tt : mB (mOp opLt (mVar 2) (mC (.int 3))) [some (.ref 0), some (.int many), some (.int v1), some (.int (v2 - 1)), none, none] h2 = .ok false h2 := by simp [c1]
    rw [mIfS_eq, tt]; rfl
  by_cases c3 : v1 = 3
  · refine go (d := .fin (v2 - 1)) d12 f2 ?_
    unfold b__law_deed
    rw [mSeq_eq, s1, SR.seq_next, mSeq_eq, s2, SR.seq_next, mSeq_eq, t0, SR.seq_next, mSeq_eq, t1, SR.seq_next]
    subst c3
    rfl
  have t3 : mIfS (mB (mOp opEq (mVar 2) (mC (.int 3)))) (mRet (mTup (mCons (mC (.str "end")) (mCons (mVar 3) (mNil))))) (mNext) [some (.ref 0), some (.int many), some (.int v1), some (.int (v2 - 1)), none, none] h2 = .ok (.next [some (.ref 0), some (.int many), some (.int v1), some (.int (v2 - 1)), none, none]) h2 := by
    simp [c3]
  obtain ⟨v3, h3, b3, d3, e3⟩ := drw a2 (many := 120) (by decide) (by decide)
  have a3 := D1.d0 a2 d3
  have w3 : mSet 5 (mOp opSub (mCall m__law_draw (mCons (mVar 0) (mCons (mC (.int 120)) (mNil)))) (mC (.int 6))) [some (.ref 0), some (.int many), some (.int v1), some (.int (v2 - 1)), none, none] h2 = .ok (.next [some (.ref 0), some (.int many), some (.int v1), some (.int (v2 - 1)), none, some (.int (v3 - 6))]) h3 := by
    rw [mSet_eq, mOp_eq, drawn rfl rfl e3]; rfl
  -- the address
  have ad : ∃ (x : Int) (h4 : MH), D1 h3 h4 ∧ Sml x ∧ mIfS (mB (mOp opEq (mVar 2) (mC (.int 4)))) (mSet 5 (mOp opSub (mCall m__law_draw (mCons (mVar 0) (mCons (mOp opPow (mC (.int 2)) (mC (.int 40))) (mNil)))) (mOp opPow (mC (.int 2)) (mC (.int 39))))) (mNext) [some (.ref 0), some (.int many), some (.int v1), some (.int (v2 - 1)), none, some (.int (v3 - 6))] h3 =
      .ok (.next [some (.ref 0), some (.int many), some (.int v1), some (.int (v2 - 1)), none, some (.int x)]) h4 := by
    by_cases c4 : v1 = 4
    · obtain ⟨v4, h4, b4, d4, e4⟩ := drw a3 (many := 2 ^ 40) (by decide) (by decide)
      refine ⟨v4 - 2 ^ 39, h4, d4, ⟨by omega, by omega⟩, ?_⟩
      have tt : mB (mOp opEq (mVar 2) (mC (.int 4))) [some (.ref 0), some (.int many), some (.int v1), some (.int (v2 - 1)), none, some (.int (v3 - 6))] h3 = .ok true h3 := by simp [c4]
      rw [mIfS_eq, tt, R.st_ok, if_pos rfl, mSet_eq, mOp_eq, drawn rfl p40 e4, R.bnd_ok, p39]; rfl
    · have b31 := b3.1
      have b32 := b3.2
      obtain ⟨ds, o3, ok3⟩ := a3
      refine ⟨v3 - 6, h3, ⟨ds, ok3, ?_⟩, ⟨by omega, by omega⟩, by simp [c4]⟩
      apply List.ext_getElem?
      intro i
      by_cases z : 0 = i
      · subst z
        rw [o3, List.getElem?_set_self (List.getElem?_eq_some_iff.mp o3).1]
      · rw [List.getElem?_set_ne z]
  obtain ⟨x, h4, d4, fx, w4⟩ := ad
  have a4 := D1.d0 a3 d4
  by_cases c6 : v1 < 6
  · refine go (d := .rea x) ((d12.trans d3).trans d4) fx ?_
    unfold b__law_deed
    have tt : mB (mOp opLt (mVar 2) (mC (.int 6))) [some (.ref 0), some (.int many), some (.int v1), some (.int (v2 - 1)), none, some (.int x)] h4 = .ok true h4 := by simp [c6]
    rw [mSeq_eq, s1, SR.seq_next, mSeq_eq, s2, SR.seq_next, mSeq_eq, t0, SR.seq_next, mSeq_eq, t1, SR.seq_next, mSeq_eq, t3, SR.seq_next, mSeq_eq, w3, SR.seq_next, mSeq_eq, w4, SR.seq_next, mSeq_eq, mIfS_eq, tt, R.st_ok, if_pos rfl]
    rfl
  · obtain ⟨v5, h5, b5, d5, e5⟩ := drw a4 (many := 2 ^ 36) (by decide) (by decide)
    refine go (d := .wri x (v5 - 2 ^ 35)) (((d12.trans d3).trans d4).trans d5) ⟨fx, by omega, by omega⟩ ?_
    unfold b__law_deed
    have tt : mB (mOp opLt (mVar 2) (mC (.int 6))) [some (.ref 0), some (.int many), some (.int v1), some (.int (v2 - 1)), none, some (.int x)] h4 = .ok false h4 := by simp [c6]
    have w5 : mOp opSub (mCall m__law_draw (mCons (mVar 0) (mCons (mOp opPow (mC (.int 2)) (mC (.int 36))) (mNil)))) (mOp opPow (mC (.int 2)) (mC (.int 35))) [some (.ref 0), some (.int many), some (.int v1), some (.int (v2 - 1)), none, some (.int x)] h4 = .ok (.int (v5 - 2 ^ 35)) h5 := by
      rw [mOp_eq, drawn rfl p36 e5, R.bnd_ok, p35]; rfl
    rw [mSeq_eq, s1, SR.seq_next, mSeq_eq, s2, SR.seq_next, mSeq_eq, t0, SR.seq_next, mSeq_eq, t1, SR.seq_next, mSeq_eq, t3, SR.seq_next, mSeq_eq, w3, SR.seq_next, mSeq_eq, w4, SR.seq_next, mSeq_eq, mIfS_eq, tt, R.st_ok, if_neg (by decide), mNext_eq, SR.seq_next, mRet_eq, mTup_eq, mCons_eq, mC_eq, R.bnd_ok, mCons_eq, mVar_eq (show _ = some (some (D.int x)) from rfl), R.bnd_ok, mCons_eq, w5]
    rfl
end
end K51
namespace K51
open PySem PySem.Spec PyProof.Rows L2 MM
def rowPy (e : Evt) : PyData := .tuple [.str e.1, .int e.2.1, .int e.2.2]
theorem rows_py : ∀ es : List Evt, rowsP (es.map evD) = some (es.map rowPy)
  | [] => rfl
  | e :: es => by
    show (rowP (evD e)).bind _ = _
    rw [show rowP (evD e) = some (rowPy e) from rfl, Option.bind_some, rows_py es]; rfl
theorem sml_log {i : Int} (h : Sml i) : i.natAbs.log2 < 1920 := log2_small (by
  have : i.natAbs ≤ 2 ^ 50 := by have := h.1; have := h.2; omega
  exact Nat.lt_of_le_of_lt this (by decide +kernel))
theorem shown_row {e : Evt} (h : EOk e) : (rowPy e).shown.length ≤ 2000 := by
  have a := tupleText_len_le (PyData.shownAll [.str e.1, .int e.2.1, .int e.2.2])
  have r1 : (reprText e.1).length ≤ 10 * e.1.length + 2 := StrLaws.reprText_len e.1 (fun c hc => by
    have q := h.1.2
    unfold PyData.strOk at q
    have := Array.all_eq_true_iff_forall_mem.mp q c (by simpa using hc)
    have := of_decide_eq_true this
    exact Nat.lt_of_lt_of_le this (by decide))
  have i1 := ME.int_len (sml_log h.2.1)
  have i2 := ME.int_len (sml_log h.2.2)
  have h5 := h.1.1
  simp only [PyData.shownAll, PyData.shown, List.map_cons, List.map_nil, List.sum_cons, List.sum_nil, List.length_cons, List.length_nil] at a
  show (tupleText _).length ≤ _
  simp only [PyData.shownAll, PyData.shown]
  omega
theorem shown_all : ∀ {es : List Evt}, (∀ e ∈ es, EOk e) → ((PyData.shownAll (es.map rowPy)).map (·.length)).sum ≤ 2000 * es.length ∧ (PyData.shownAll (es.map rowPy)).length = es.length ∧ PyData.showableAll (es.map rowPy) = true ∧ PyData.hasDictAll (es.map rowPy) = false ∧ PyData.depthAll (es.map rowPy) ≤ 1
  | [], _ => ⟨Nat.le_refl _, rfl, rfl, rfl, by decide⟩
  | e :: es, h => by
    obtain ⟨a, b, c, d, f⟩ := shown_all (es := es) fun x hx => h x (by simp [hx])
    have he := h e (by simp)
    have s := shown_row he
    refine ⟨?_, ?_, ?_, ?_, ?_⟩
    · simp only [List.map_cons, PyData.shownAll, List.sum_cons, List.length_cons]; omega
    · simp only [List.map_cons, PyData.shownAll, List.length_cons]; omega
    · simp only [List.map_cons, PyData.showableAll, c, Bool.and_true]
      simp [rowPy, PyData.showable, PyData.showableAll, sml_log he.2.1, sml_log he.2.2]
    · simp only [List.map_cons, PyData.hasDictAll, d, Bool.or_false]
      rfl
    · show max (PyData.depth (rowPy e)) (PyData.depthAll (es.map rowPy)) ≤ 1
      have : PyData.depth (rowPy e) = 1 := rfl
      omega
theorem repr_ok {K : MH} {p : Nat} {es : List Evt} (hp : K[p]? = some (.lst (es.map evD))) (h : ∀ e ∈ es, EOk e) (hl : es.length ≤ 1000) : fRepr [.ref p] K = .ok (.str (PyData.list (es.map rowPy)).shown) K := by
  obtain ⟨a, b, c, d, f⟩ := shown_all h
  have z : ShowOk (.list (es.map rowPy)) := by
    refine ⟨by simpa [PyData.showable] using c, by simpa [PyData.hasDict] using d, by show PyData.depthAll (es.map rowPy) + 1 ≤ 10; omega, ?_⟩
    have q := listText_len_le (PyData.shownAll (es.map rowPy))
    show (listText (PyData.shownAll (es.map rowPy))).length ≤ sizeLine
    rw [sizeLine_eq]
    omega
  unfold fRepr
  simp only [lstD_ref, lst?_of hp, Option.bind_some, rows_py]
  rw [if_pos z]
theorem eok_evs : ∀ {es : List Evt}, (∀ e ∈ es, EOk e) → eokL 1 (es.map evD) = true
  | [], _ => rfl
  | e :: es, h => by
    have he := h e (by simp)
    show ((evD e).eok 1 && eokL 1 (es.map evD)) = true
    rw [eok_evs fun x hx => h x (by simp [hx]), Bool.and_true]
    unfold evD
    simp [D.eok, eokL, he.1.2]
theorem eq_evs {K : MH} {p q : Nat} {es : List Evt} (hp : K[p]? = some (.lst (es.map evD))) (hq : K[q]? = some (.lst (es.map evD))) (h : ∀ e ∈ es, EOk e) : opEq (.ref p) (.ref q) K = .ok (.bl true) K := by
  have e := eok_evs h
  have sp : seeD (.ref p) K = .rol (es.map evD) := by unfold seeD; simp only [lst?_of hp]
  have sq : seeD (.ref q) K = .rol (es.map evD) := by unfold seeD; simp only [lst?_of hq]
  have ek : (D.rol (es.map evD)).eok 2 = true := by unfold D.eok; exact e
  rw [opEq_is (n := 2) (m := 2) (by decide) (by decide) (by rw [sp]; exact ek) (by rw [sq]; exact ek), sp, sq, eqD_refl ek]
theorem deed_eok : ∀ d : Deed, d.enc.eok 1 = true
  | .beg => by decide +kernel
  | .cel r w => by show D.eok 1 (.tup [.str "cell", .int r, .int w]) = true; simp [D.eok, eokL]; decide +kernel
  | .fin r => by show D.eok 1 (.tup [.str "end", .int r]) = true; simp [D.eok, eokL]; decide +kernel
  | .rea a => by show D.eok 1 (.tup [.str "read", .int a]) = true; simp [D.eok, eokL]; decide +kernel
  | .wri a x => by show D.eok 1 (.tup [.str "write", .int a, .int x]) = true; simp [D.eok, eokL]; decide +kernel
theorem eok_deeds : ∀ ds : List Deed, eokL 1 (ds.map Deed.enc) = true
  | [] => rfl
  | d :: ds => by
    show (d.enc.eok 1 && eokL 1 (ds.map Deed.enc)) = true
    rw [eok_deeds ds, deed_eok]; rfl
theorem ne_deeds {K : MH} {q : Nat} {ds : List Deed} (hq : K[q]? = some (.lst (ds.map Deed.enc))) : opNe (.rol (ds.map Deed.enc)) (.ref q) K = .ok (.bl false) K := by
  have sq : seeD (.ref q) K = .rol (ds.map Deed.enc) := by unfold seeD; simp only [lst?_of hq]
  have sp : seeD (.rol (ds.map Deed.enc)) K = .rol (ds.map Deed.enc) := rfl
  have ek : (D.rol (ds.map Deed.enc)).eok 2 = true := by unfold D.eok; exact eok_deeds ds
  rw [opNe_is (n := 2) (m := 2) (by decide) (by decide) (by rw [sp]; exact ek) (by rw [sq]; exact ek), sp, sq, eqD_refl ek]; rfl
end K51
namespace K51
open PySem PySem.Spec PyProof.Rows L2 MM
section
variable {h g k : MH}
theorem D0.of1 {q : Nat} (a : D0 h) (hq : q ≠ 0) (o : MO) : D0 (h.set q o) := by
  obtain ⟨ds, e, ok⟩ := a
  exact ⟨ds, by rw [List.getElem?_set_ne hq]; exact e, ok⟩
theorem last_ix {q : Nat} {L : List D} {x : D} (e : lst? h q = some (L ++ [x])) : opIx (.ref q) (.int (-1)) h = .ok x h := opIx_of (by
  rw [ixG_ref, e, Option.bind_some]
  unfold L2.atI L2.ixN
  rw [if_neg (by decide), List.length_append, if_pos (by simp; omega)]
  have : (-1 + (((L.length + [x].length : Nat)) : Int)).toNat = L.length := by simp; omega
  rw [Option.bind_some, this]
  simp)
theorem word_ix (d : Deed) : ∃ w : Str, opIx d.enc (.int 0) h = .ok (.str w) h := by
  cases d <;> exact ⟨_, rfl⟩
theorem turn_g {sc j x5 x6 x7 x8 x9 x10 : Option D} {q many : Nat} {ds : List Deed} (a : D0 h) (hq : q ≠ 0) (e : h[q]? = some (.lst (ds.map Deed.enc))) (hm : many ≤ 1000) (hl : ds.length ≤ 1000) :
    ∃ (d : Deed) (h' : MH) (many' : Nat), d.Fit ∧ many' ≤ many + 1 ∧ D0 h' ∧ h'[q]? = some (.lst ((ds ++ [d]).map Deed.enc)) ∧ h'.length = h.length ∧
      b_law_1 [sc, some (.ref 0), some (.ref q), some (.int many), j, x5, x6, x7, x8, x9, x10] h = .ok (.next [sc, some (.ref 0), some (.ref q), some (.int many'), j, x5, x6, x7, x8, x9, x10]) h' := by
  obtain ⟨d, k, d1, f, ed⟩ := deed_ok a hm
  have ek : k[q]? = some (.lst (ds.map Deed.enc)) := by rw [d1.keep hq]; exact e
  have lq := (List.getElem?_eq_some_iff.mp ek).1
  have ap : fAppend (.ref q) [d.enc] k = .ok .non (k.set q (.lst ((ds ++ [d]).map Deed.enc))) := by
    unfold fAppend
    simp only [lst?_of ek]
    rw [if_pos (by simp; omega)]
    simp
  have at2 : (k.set q (.lst ((ds ++ [d]).map Deed.enc)))[q]? = some (.lst ((ds ++ [d]).map Deed.enc)) := List.getElem?_set_self lq
  have ty := isTy_ref (T := "list") (lst?_of e)
  have s1 : mDrop (mMtd "list" fAppend (mVar 2) (mCons (mCall m__law_deed (mCons (mVar 1) (mCons (mVar 3) (mNil)))) (mNil))) [sc, some (.ref 0), some (.ref q), some (.int many), j, x5, x6, x7, x8, x9, x10] h = .ok (.next [sc, some (.ref 0), some (.ref q), some (.int many), j, x5, x6, x7, x8, x9, x10]) (k.set q (.lst ((ds ++ [d]).map Deed.enc))) := by
    generalize k.set q (.lst ((ds ++ [d]).map Deed.enc)) = K at ap
    simp [ty, ed, ap]
  have lx := last_ix (h := k.set q (.lst ((ds ++ [d]).map Deed.enc))) (q := q) (L := ds.map Deed.enc) (x := d.enc) (by rw [lst?_of at2]; simp)
  obtain ⟨w, wx⟩ := word_ix (h := k.set q (.lst ((ds ++ [d]).map Deed.enc))) d
  refine ⟨d, k.set q (.lst ((ds ++ [d]).map Deed.enc)), many + (if w = "begin" then 1 else 0), f, by split <;> omega, (D1.d0 a d1).of1 hq _, at2, by rw [List.length_set, d1.len], ?_⟩
  unfold b_law_1
  rw [mSeq_eq, s1, SR.seq_next]
  generalize k.set q (.lst ((ds ++ [d]).map Deed.enc)) = K at lx wx
  by_cases z : w = "begin"
  · have fi : fInt [D.bl true] K = .ok (.int 1) K := rfl
    simp [lx, wx, z, fi]
  · have fi : fInt [D.bl false] K = .ok (.int 0) K := rfl
    simp [lx, wx, z, fi]
theorem gen_loop {sc x5 x6 x7 x8 x9 x10 : Option D} {q : Nat} (hq : q ≠ 0) : ∀ (ls : List Nat) (h : MH) (ds : List Deed) (many : Nat) (j : Option D), D0 h → h[q]? = some (.lst (ds.map Deed.enc)) → (∀ d ∈ ds, d.Fit) → many + ls.length ≤ 900 → ds.length + ls.length ≤ 900 →
    ∃ (h' : MH) (ds' : List Deed) (many' : Nat) (j' : Option D), MM.forM (fun _ => True) (mgName 4) b_law_1 (ls.map fun (i : Nat) => D.int i) [sc, some (.ref 0), some (.ref q), some (.int (many : Nat)), j, x5, x6, x7, x8, x9, x10] h = .ok (.next [sc, some (.ref 0), some (.ref q), some (.int (many' : Nat)), j', x5, x6, x7, x8, x9, x10]) h' ∧
      D0 h' ∧ h'[q]? = some (.lst (ds'.map Deed.enc)) ∧ (∀ d ∈ ds', d.Fit) ∧ ds'.length = ds.length + ls.length ∧ h'.length = h.length
  | [], h, ds, many, j, a, e, f, hm, hl => ⟨h, ds, many, j, by rw [List.map_nil, MM.forM, if_pos trivial], a, e, f, rfl, rfl⟩
  | i :: ls, h, ds, many, j, a, e, f, hm, hl => by
    rw [List.length_cons] at hm hl
    obtain ⟨d, h1, m1, fd, hm1, a1, e1, l1, r1⟩ := turn_g (sc := sc) (j := some (.int i)) (x5 := x5) (x6 := x6) (x7 := x7) (x8 := x8) (x9 := x9) (x10 := x10) (ds := ds) a hq e (many := many) (by omega) (by omega)
    obtain ⟨h2, ds2, m2, j2, r2, a2, e2, f2, n2, l2⟩ := gen_loop (sc := sc) (x5 := x5) (x6 := x6) (x7 := x7) (x8 := x8) (x9 := x9) (x10 := x10) hq ls h1 (ds ++ [d]) m1 (some (.int i)) a1 e1 (fun y hy => by
      rcases List.mem_append.mp hy with z | z
      · exact f y z
      · have : y = d := by simpa using z
        rw [this]; exact fd) (by omega) (by simp; omega)
    refine ⟨h2, ds2, m2, j2, ?_, a2, e2, f2, by rw [n2]; simp; omega, l2.trans l1⟩
    rw [List.map_cons, forM_next trivial (show mgName 4 (.int (i : Int)) [sc, some (.ref 0), some (.ref q), some (.int (many : Nat)), j, x5, x6, x7, x8, x9, x10] = some [sc, some (.ref 0), some (.ref q), some (.int (many : Nat)), some (.int i), x5, x6, x7, x8, x9, x10] from rfl) r1]
    exact r2
def m00 (k : Nat) : Mod := ⟨k, k + 1, k + 2, k + 3, k + 4, [], [], [], [], []⟩
theorem new_ok : m__law_new [] h = .ok (.ref (h.length + 5)) (h ++ [.lst [], .lst [], .lst [], .lst [], .lst [], .lst [.ref h.length, .ref (h.length + 1), .ref (h.length + 2), .ref (h.length + 3), .ref (h.length + 4)]]) := by
  show mFnN 0 0 b__law_new _ _ = _
  rw [mFnN_eq (by rfl)]
  show mEndN (b__law_new [] h) = _
  unfold b__law_new
  simp
  rfl
theorem m00_v {g2 : MH} : V (h ++ [.lst [], .lst [], .lst [], .lst [], .lst [], .lst [.ref h.length, .ref (h.length + 1), .ref (h.length + 2), .ref (h.length + 3), .ref (h.length + 4)]] ++ g2) (mcells (h.length + 5) (m00 h.length)) := by
  intro p hp
  simp only [mcells, m00, List.map_nil, List.mem_cons, List.not_mem_nil, or_false] at hp
  rcases hp with rfl | rfl | rfl | rfl | rfl | rfl <;> simp
theorem m00_ok {k : Nat} : MOk (k + 5) (m00 k) := by
  refine ⟨?_, rfl, by simp [m00], rfl, rfl, by simp [m00]⟩
  unfold Dj
  simp [mcells, m00]
theorem sim00 {n k : Nat} : Sim (sto0 n) (m00 k) :=
  ⟨rfl, rfl, fun r z => (List.not_mem_nil z).elim, fun j z => by simp [m00] at z, fun r z => (List.not_mem_nil z).elim, fun r z => (List.not_mem_nil z).elim, fun r z => (List.not_mem_nil z).elim, fun p o z => by simp [sto0] at z, rfl, rfl⟩
end
end K51
namespace K51
open PySem PySem.Spec PyProof.Rows L2 MM
noncomputable def l1 : MSt := mSet 1 (mCall m__law_start (mCons (mVar 0) (mNil)))
noncomputable def l2 : MSt := mSet 2 (mLstN (mCons (mTup (mCons (mC (.str "begin")) (mNil))) (mNil)))
noncomputable def l3 : MSt := mIfS (mB (mOp opEq (mCall m__law_draw (mCons (mVar 1) (mCons (mC (.int 4)) (mNil)))) (mC (.int 1)))) (mSet 2 (mLstN (mNil))) (mNext)
noncomputable def l4 : MSt := mSet 3 (mC (.int 1))
noncomputable def l5 : MSt := mFor (mCallI fRange1 (mCons (mCall m__law_draw (mCons (mVar 1) (mCons (mC (.int 70)) (mNil)))) (mNil))) (mgName 4) (b_law_1)
noncomputable def l6 : MSt := mSet 5 (mCall m__law_new mNil)
noncomputable def l7 : MSt := mSet 6 (mLstN (mNil))
noncomputable def l8 : MSt := mFor (mSrc (mVar 2)) (mgName 7) (b_law_2)
noncomputable def l9 : MSt := mSet 9 (mCall fList (mCons (mVar 2) (mNil)))
noncomputable def l10 : MSt := mSet 10 (mCall m_replay (mCons (mVar 9) (mNil)))
noncomputable def l11 : MSt := mIfS (mOr (mNot (mTru (mCall fIsi (mCons (mVar 10) (mCons (mC (.ty "list")) (mNil)))))) (mOr (mB (mOp opNe (mCall fRepr (mCons (mVar 10) (mNil))) (mCall fRepr (mCons (mVar 6) (mNil))))) (mB (mOp opNe (mVar 9) (mVar 2))))) (mRet (mC (.bl false))) (mNext)
noncomputable def l12 : MSt := mDrop (mMtd "list" fAppend (mVar 10) (mCons (mC .non) (mNil)))
noncomputable def l13 : MSt := mRet (mOp opEq (mCall m_replay (mCons (mVar 9) (mNil))) (mVar 6))
theorem law_eq : b_law = mSeq l1 (mSeq l2 (mSeq l3 (mSeq l4 (mSeq l5 (mSeq l6 (mSeq l7 (mSeq l8 (mSeq l9 (mSeq l10 (mSeq l11 (mSeq l12 (l13)))))))))))) := rfl
theorem ev_inj : ∀ {a b : List Evt}, a.map evD = b.map evD → a = b
  | [], [], _ => rfl
  | [], _ :: _, h => by cases h
  | _ :: _, [], h => by cases h
  | (x, y, z) :: a, (x', y', z') :: b, h => by
    rw [List.map_cons, List.map_cons] at h
    injection h with h1 h2
    unfold evD at h1
    simp only [D.tup.injEq, List.cons.injEq, D.str.injEq, D.int.injEq, and_true] at h1
    obtain ⟨rfl, rfl, rfl⟩ := h1
    rw [ev_inj h2]
section
variable {G H7 H8 : MH} {m q dl : Nat} {k : Nat} {DS : List Deed} {es : List Evt} {a0 a1 a3 a4 y7 y8 : Option D}
structure Told (H7 H8 : MH) (m k q dl : Nat) (DS : List Deed) (es : List Evt) (a0 a1 a3 a4 y7 y8 : Option D) : Prop where
  run : MM.forM (fun h' => lstD (.ref q) h' = some (DS.map Deed.enc)) (mgName 7) b_law_2 (DS.map Deed.enc) [a0, a1, some (.ref q), a3, a4, some (.ref m), some (.ref dl), none, none, none, none] H7 = .ok (.next [a0, a1, some (.ref q), a3, a4, some (.ref m), some (.ref dl), y7, y8, none, none]) H8
  hd : H8[dl]? = some (.lst (es.map evD))
  eok : ∀ e ∈ es, EOk e
  len : es.length ≤ 1000
structure Pre (H7 : MH) (m k q dl : Nat) (DS : List Deed) : Prop where
  fit : ∀ d ∈ DS, d.Fit
  len : DS.length ≤ 900
  vm : V H7 (mcells m (m00 k))
  meq : m = k + 5
  due : H7[dl]? = some (.lst [])
  n1 : dl ∉ ma_ m (m00 k)
  q1 : H7[q]? = some (.lst (DS.map Deed.enc))
  n2 : q ∉ ma_ m (m00 k)
  n3 : q ≠ dl
theorem pre_sd (P : Pre H7 m k q dl DS) (G : MH) : Sd (H0 G) H7 G.length (sto0 G.length) m (m00 k) 0 := by
  have ok := m00_ok (k := k)
  rw [← P.meq] at ok
  exact ⟨⟨h0_v, store_sok, P.vm, ok, sim00⟩, Nat.le_refl _, Nat.le_refl _, Nat.le_refl _⟩
theorem told (P : Pre H7 m k q dl DS) : ∃ H8 es y7 y8, Told H7 H8 m k q dl DS es a0 a1 a3 a4 y7 y8 ∧ H7.length ≤ H8.length ∧ H8[q]? = some (.lst (DS.map Deed.enc)) := by
  obtain ⟨h', g', s', M', es, y2, y7, y8, r1, r2, R⟩ := loops (D0 := .non) (a0 := a0) (a1 := a1) (a3 := a3) (a4 := a4) (q := q) (dl := dl) (L := DS.map Deed.enc) DS 0 (H0 []) H7 (sto0 0) (m00 k) [] none none none P.fit (by have := P.len; omega) (pre_sd P []) P.due P.n1 (Nat.le_refl _) P.q1 P.n2 P.n3
  refine ⟨g', es, y7, y8, ⟨r2, R.due, R.eok, by have := R.len; have := P.len; omega⟩, R.le, ?_⟩
  rw [R.keep q (List.getElem?_eq_some_iff.mp P.q1).1 P.n2 P.n3]; exact P.q1
theorem again (P : Pre H7 m k q dl DS) (T : Told H7 H8 m k q dl DS es a0 a1 a3 a4 y7 y8) (G : MH) : ∃ p K, m_replay [.rol (DS.map Deed.enc)] G = .ok (.ref p) K ∧ K[p]? = some (.lst (es.map evD)) ∧ G.length ≤ p ∧ G.length ≤ K.length ∧ ∀ i : Nat, i < G.length → K[i]? = G[i]? := by
  obtain ⟨h', g', s', M', es', y2, z7, z8, r1, r2, R⟩ := loops (D0 := .rol (DS.map Deed.enc)) (a0 := a0) (a1 := a1) (a3 := a3) (a4 := a4) (q := q) (dl := dl) (L := DS.map Deed.enc) DS 0 (H0 G) H7 (sto0 G.length) (m00 k) [] none none none P.fit (by have := P.len; omega) (pre_sd P G) P.due P.n1 (Nat.le_refl _) P.q1 P.n2 P.n3
  rw [T.run] at r2
  injection r2 with _ r3
  have hd := R.due
  rw [← r3, T.hd] at hd
  have ee : es = es' := ev_inj (by simpa using hd)
  exact replay_ok r1 R.z.b.vs (by rw [R.log, ee]; rfl) R.u R.fs
end
theorem law_true (ns : List Int) (_ : ns.length ≤ 63) : ∃ h', m_law [.rol (ns.map D.int)] [] = .ok (.bl true) h' := by
  obtain ⟨ds0, ok0, es0⟩ := start51 (ns := ns)
  generalize ns.map D.int = NS at es0
  have s1 : l1 [some (.rol NS), none, none, none, none, none, none, none, none, none, none] [] = .ok (.next [some (.rol NS), some (.ref 0), none, none, none, none, none, none, none, none, none]) [ds0.enc] := by
    unfold l1
    rw [mSet_eq, mCall_eq, mCons_eq, mVar_eq (show _ = some (some (D.rol NS)) from rfl), R.bnd_ok, mNil_eq, R.bnd_ok, R.bnd_ok, es0]; rfl
  have s2 : l2 [some (.rol NS), some (.ref 0), none, none, none, none, none, none, none, none, none] [ds0.enc] = .ok (.next [some (.rol NS), some (.ref 0), some (.ref 1), none, none, none, none, none, none, none, none]) [ds0.enc, .lst [.tup [.str "begin"]]] := rfl
  -- the list of deeds
  have a2 : D0 [ds0.enc, .lst [.tup [.str "begin"]]] := ⟨ds0, rfl, ok0⟩
  obtain ⟨v3, k3, b3, d3, e3⟩ := drw a2 (many := 4) (by decide) (by decide)
  have l3k := d3.len
  have a3 := D1.d0 a2 d3
  have k31 : k3[1]? = some (.lst ([Deed.beg].map Deed.enc)) := by rw [d3.keep (by decide)]; rfl
  have s3 : ∃ (q : Nat) (H3 : MH) (D3 : List Deed), q ≠ 0 ∧ D0 H3 ∧ H3[q]? = some (.lst (D3.map Deed.enc)) ∧ (∀ d ∈ D3, d.Fit) ∧ D3.length ≤ 1 ∧ l3 [some (.rol NS), some (.ref 0), some (.ref 1), none, none, none, none, none, none, none, none] [ds0.enc, .lst [.tup [.str "begin"]]] = .ok (.next [some (.rol NS), some (.ref 0), some (.ref q), none, none, none, none, none, none, none, none]) H3 := by
    have c3 : mB (mOp opEq (mCall m__law_draw (mCons (mVar 1) (mCons (mC (.int 4)) (mNil)))) (mC (.int 1))) [some (.rol NS), some (.ref 0), some (.ref 1), none, none, none, none, none, none, none, none] [ds0.enc, .lst [.tup [.str "begin"]]] = .ok (decide (v3 = 1)) k3 := by
      rw [mB_eq, mOp_eq, mCall_eq, mCons_eq, mVar_eq (show _ = some (some (D.ref 0)) from rfl), R.bnd_ok, mCons_eq, mC_eq, R.bnd_ok, mNil_eq, R.bnd_ok, R.bnd_ok, R.bnd_ok, e3, R.bnd_ok, mC_eq, R.bnd_ok]
      by_cases z : v3 = 1 <;> simp [z]
    by_cases z : v3 = 1
    · refine ⟨2, k3 ++ [.lst []], [], by decide, ?_, ?_, fun _ z => (List.not_mem_nil z).elim, Nat.zero_le _, ?_⟩
      · obtain ⟨st, e, o⟩ := a3
        exact ⟨st, by rw [List.getElem?_append_left (List.getElem?_eq_some_iff.mp e).1]; exact e, o⟩
      · rw [List.getElem?_append_right (by rw [l3k]; exact Nat.le_refl _), l3k]; rfl
      · unfold l3
        rw [mIfS_eq, c3, R.st_ok, if_pos (by simpa using z), mSet_eq]
        have : mLstN mNil [some (.rol NS), some (.ref 0), some (.ref 1), none, none, none, none, none, none, none, none] k3 = .ok (.ref 2) (k3 ++ [.lst []]) := by
          have : k3.length = 2 := l3k
          simp [this]
        rw [this]; rfl
    · refine ⟨1, k3, [.beg], by decide, a3, k31, fun d hd => ?_, by decide, ?_⟩
      · have : d = .beg := by simpa using hd
        rw [this]; trivial
      · unfold l3
        rw [mIfS_eq, c3, R.st_ok, if_neg (by simpa using z)]; rfl
  obtain ⟨q, H3, D3, q0, a4, e4, f4, n4, s3⟩ := s3
  have s4 : l4 [some (.rol NS), some (.ref 0), some (.ref q), none, none, none, none, none, none, none, none] H3 = .ok (.next [some (.rol NS), some (.ref 0), some (.ref q), some (.int ((1 : Nat) : Int)), none, none, none, none, none, none, none]) H3 := rfl
  obtain ⟨v5, h5, b5, d5, e5⟩ := drw a4 (many := 70) (by decide) (by decide)
  have a5 := D1.d0 a4 d5
  obtain ⟨H5, DS, many, j, r5, a6, e6, f6, n6, ln6⟩ := gen_loop (sc := some (.rol NS)) (x5 := none) (x6 := none) (x7 := none) (x8 := none) (x9 := none) (x10 := none) q0 (List.range v5.toNat) h5 D3 1 none a5 (by rw [d5.keep q0]; exact e4) f4 (by simp; omega) (by simp; omega)
  have s5 : l5 [some (.rol NS), some (.ref 0), some (.ref q), some (.int ((1 : Nat) : Int)), none, none, none, none, none, none, none] H3 = .ok (.next [some (.rol NS), some (.ref 0), some (.ref q), some (.int (many : Nat)), j, none, none, none, none, none, none]) H5 := by
    unfold l5
    rw [mFor_eq, mCallI_eq, mCons_eq, mCall_eq, mCons_eq, mVar_eq (show _ = some (some (D.ref 0)) from rfl), R.bnd_ok, mCons_eq, mC_eq, R.bnd_ok, mNil_eq, R.bnd_ok, R.bnd_ok, R.bnd_ok, e5, R.bnd_ok, mNil_eq, R.bnd_ok, R.bnd_ok, fRange1_eq (by omega) (by omega), R.st_ok]
    exact r5
  have lq := (List.getElem?_eq_some_iff.mp e6).1
  have lDS : DS.length ≤ 70 := by rw [n6, List.length_range]; omega
  have s6 : l6 [some (.rol NS), some (.ref 0), some (.ref q), some (.int (many : Nat)), j, none, none, none, none, none, none] H5 = .ok (.next [some (.rol NS), some (.ref 0), some (.ref q), some (.int (many : Nat)), j, some (.ref (H5.length + 5)), none, none, none, none, none]) (H5 ++ [.lst [], .lst [], .lst [], .lst [], .lst [], .lst [.ref H5.length, .ref (H5.length + 1), .ref (H5.length + 2), .ref (H5.length + 3), .ref (H5.length + 4)]]) := by
    unfold l6
    rw [mSet_eq, mCall_eq, mNil_eq, R.bnd_ok, new_ok]; rfl
  obtain ⟨H7, h7⟩ : ∃ H7, H7 = H5 ++ [.lst [], .lst [], .lst [], .lst [], .lst [], .lst [.ref H5.length, .ref (H5.length + 1), .ref (H5.length + 2), .ref (H5.length + 3), .ref (H5.length + 4)]] ++ [MO.lst []] := ⟨_, rfl⟩
  have s7 : l7 [some (.rol NS), some (.ref 0), some (.ref q), some (.int (many : Nat)), j, some (.ref (H5.length + 5)), none, none, none, none, none] (H5 ++ [.lst [], .lst [], .lst [], .lst [], .lst [], .lst [.ref H5.length, .ref (H5.length + 1), .ref (H5.length + 2), .ref (H5.length + 3), .ref (H5.length + 4)]]) =
      .ok (.next [some (.rol NS), some (.ref 0), some (.ref q), some (.int (many : Nat)), j, some (.ref (H5.length + 5)), some (.ref (H5.length + 6)), none, none, none, none]) H7 := by
    unfold l7
    rw [h7]
    simp
  have nin : ∀ p : Nat, p ∈ ma_ (H5.length + 5) (m00 H5.length) → H5.length ≤ p ∧ p ≤ H5.length + 5 := fun p hp => by
    simp [ma_, mcells, m00] at hp
    omega
  have P : Pre H7 (H5.length + 5) H5.length q (H5.length + 6) DS := ⟨f6, by omega, by rw [h7]; exact m00_v, rfl, by rw [h7]; simp, fun z => by have := nin _ z; omega, by rw [h7, List.append_assoc, List.getElem?_append_left lq]; exact e6, fun z => by have := nin _ z; omega, by omega⟩
  obtain ⟨H8, es, y7, y8, T, le8, q8⟩ := told (a0 := some (.rol NS)) (a1 := some (.ref 0)) (a3 := some (.int (many : Nat))) (a4 := j) P
  have l7' : H7.length = H5.length + 7 := by rw [h7]; simp
  have s8 : l8 [some (.rol NS), some (.ref 0), some (.ref q), some (.int (many : Nat)), j, some (.ref (H5.length + 5)), some (.ref (H5.length + 6)), none, none, none, none] H7 = .ok (.next [some (.rol NS), some (.ref 0), some (.ref q), some (.int (many : Nat)), j, some (.ref (H5.length + 5)), some (.ref (H5.length + 6)), y7, y8, none, none]) H8 := by
    unfold l8
    have so : srcOf (.ref q) H7 = .ok ⟨DS.map Deed.enc, fun h' => lstD (.ref q) h' = some (DS.map Deed.enc)⟩ H7 := by
      unfold srcOf srcG
      have : lstD (.ref q) H7 = some (DS.map Deed.enc) := lst?_of P.q1
      simp only [this, Option.map_some]
    rw [mFor_eq, mSrc_eq, mVar_eq (show _ = some (some (D.ref q)) from rfl), R.bnd_ok, so, R.st_ok]
    exact T.run
  have s9 : l9 [some (.rol NS), some (.ref 0), some (.ref q), some (.int (many : Nat)), j, some (.ref (H5.length + 5)), some (.ref (H5.length + 6)), y7, y8, none, none] H8 = .ok (.next [some (.rol NS), some (.ref 0), some (.ref q), some (.int (many : Nat)), j, some (.ref (H5.length + 5)), some (.ref (H5.length + 6)), y7, y8, some (.rol (DS.map Deed.enc)), none]) H8 := by
    unfold l9
    have fl : fList [.ref q] H8 = .ok (.rol (DS.map Deed.enc)) H8 := fList_eq (by rw [seqG_ref]; exact lst?_of q8)
    rw [mSet_eq, mCall_eq, mCons_eq, mVar_eq (show _ = some (some (D.ref q)) from rfl), R.bnd_ok, mNil_eq, R.bnd_ok, R.bnd_ok, fl]; rfl
  obtain ⟨p1, K1, r10, kp1, gp1, gk1, kk1⟩ := again P T H8
  have s10 : l10 [some (.rol NS), some (.ref 0), some (.ref q), some (.int (many : Nat)), j, some (.ref (H5.length + 5)), some (.ref (H5.length + 6)), y7, y8, some (.rol (DS.map Deed.enc)), none] H8 = .ok (.next [some (.rol NS), some (.ref 0), some (.ref q), some (.int (many : Nat)), j, some (.ref (H5.length + 5)), some (.ref (H5.length + 6)), y7, y8, some (.rol (DS.map Deed.enc)), some (.ref p1)]) K1 := by
    unfold l10
    rw [mSet_eq, mCall_eq, mCons_eq, mVar_eq (show _ = some (some (D.rol (DS.map Deed.enc))) from rfl), R.bnd_ok, mNil_eq, R.bnd_ok, R.bnd_ok, r10]; rfl
  have k1d : K1[H5.length + 6]? = some (.lst (es.map evD)) := by rw [kk1 _ (by omega)]; exact T.hd
  have k1q : K1[q]? = some (.lst (DS.map Deed.enc)) := by rw [kk1 _ (by omega)]; exact q8
  have s11 : l11 [some (.rol NS), some (.ref 0), some (.ref q), some (.int (many : Nat)), j, some (.ref (H5.length + 5)), some (.ref (H5.length + 6)), y7, y8, some (.rol (DS.map Deed.enc)), some (.ref p1)] K1 = .ok (.next [some (.rol NS), some (.ref 0), some (.ref q), some (.int (many : Nat)), j, some (.ref (H5.length + 5)), some (.ref (H5.length + 6)), y7, y8, some (.rol (DS.map Deed.enc)), some (.ref p1)]) K1 := by
    unfold l11
    have fi : fIsi [.ref p1, .ty "list"] K1 = .ok (.bl true) K1 := by
      unfold fIsi
      have tn : tyName (.ref p1) K1 = some "list" := by unfold tyName; simp only [kp1]
      show (if ("list" : String) = "NoneType" then R.stuck else (match (tyName (.ref p1) K1).bind fun a => isTyB a "list" with | some k => R.ok (D.bl k) K1 | none => .stuck)) = _
      rw [if_neg (by decide), tn]
      rfl
    have r1 := repr_ok kp1 T.eok T.len
    have r2 := repr_ok k1d T.eok T.len
    have ne := ne_deeds k1q
    generalize (PyData.list (es.map rowPy)).shown = tx at r1 r2
    have t1 : mNot (mTru (mCall fIsi (mCons (mVar 10) (mCons (mC (.ty "list")) (mNil))))) [some (.rol NS), some (.ref 0), some (.ref q), some (.int (many : Nat)), j, some (.ref (H5.length + 5)), some (.ref (H5.length + 6)), y7, y8, some (.rol (DS.map Deed.enc)), some (.ref p1)] K1 = .ok false K1 := by
      rw [mNot_eq, mTru_eq, mCall_eq, mCons_eq, mVar_eq (show _ = some (some (D.ref p1)) from rfl), R.bnd_ok, mCons_eq, mC_eq, R.bnd_ok, mNil_eq, R.bnd_ok, R.bnd_ok, R.bnd_ok, fi]; rfl
    have t2 : mB (mOp opNe (mCall fRepr (mCons (mVar 10) (mNil))) (mCall fRepr (mCons (mVar 6) (mNil)))) [some (.rol NS), some (.ref 0), some (.ref q), some (.int (many : Nat)), j, some (.ref (H5.length + 5)), some (.ref (H5.length + 6)), y7, y8, some (.rol (DS.map Deed.enc)), some (.ref p1)] K1 = .ok false K1 := by
      rw [mB_eq, mOp_eq, mCall_eq, mCons_eq, mVar_eq (show _ = some (some (D.ref p1)) from rfl), R.bnd_ok, mNil_eq, R.bnd_ok, R.bnd_ok, r1, R.bnd_ok, mCall_eq, mCons_eq, mVar_eq (show _ = some (some (D.ref (H5.length + 6))) from rfl), R.bnd_ok, mNil_eq, R.bnd_ok, R.bnd_ok, r2, R.bnd_ok]
      have : opNe (.str tx) (.str tx) K1 = .ok (.bl false) K1 := by simp
      rw [this]; rfl
    have t3 : mB (mOp opNe (mVar 9) (mVar 2)) [some (.rol NS), some (.ref 0), some (.ref q), some (.int (many : Nat)), j, some (.ref (H5.length + 5)), some (.ref (H5.length + 6)), y7, y8, some (.rol (DS.map Deed.enc)), some (.ref p1)] K1 = .ok false K1 := by
      rw [mB_eq, mOp_eq, mVar_eq (show _ = some (some (D.rol (DS.map Deed.enc))) from rfl), R.bnd_ok, mVar_eq (show _ = some (some (D.ref q)) from rfl), R.bnd_ok, ne]; rfl
    rw [mIfS_eq, mOr_eq, t1, R.bnd_ok, if_neg Bool.false_ne_true, mOr_eq, t2, R.bnd_ok, if_neg Bool.false_ne_true, t3, R.st_ok, if_neg Bool.false_ne_true]; rfl
  have lp1 := (List.getElem?_eq_some_iff.mp kp1).1
  have s12 : l12 [some (.rol NS), some (.ref 0), some (.ref q), some (.int (many : Nat)), j, some (.ref (H5.length + 5)), some (.ref (H5.length + 6)), y7, y8, some (.rol (DS.map Deed.enc)), some (.ref p1)] K1 = .ok (.next [some (.rol NS), some (.ref 0), some (.ref q), some (.int (many : Nat)), j, some (.ref (H5.length + 5)), some (.ref (H5.length + 6)), y7, y8, some (.rol (DS.map Deed.enc)), some (.ref p1)]) (K1.set p1 (.lst (es.map evD ++ [.non]))) := by
    have tl := T.len
    have ap : fAppend (.ref p1) [.non] K1 = .ok .non (K1.set p1 (.lst (es.map evD ++ [.non]))) := by
      unfold fAppend
      simp only [lst?_of kp1]
      rw [if_pos (by simp; omega)]
    have ty := isTy_ref (T := "list") (lst?_of kp1)
    unfold l12
    generalize K1.set p1 (.lst (es.map evD ++ [.non])) = K at ap
    simp [ty, ap]
  obtain ⟨p2, K2, r13, kp2, gp2, gk2, kk2⟩ := again P T (K1.set p1 (.lst (es.map evD ++ [.non])))
  have k2d : K2[H5.length + 6]? = some (.lst (es.map evD)) := by
    rw [kk2 _ (by rw [List.length_set]; omega), List.getElem?_set_ne (by omega)]; exact k1d
  have s13 : l13 [some (.rol NS), some (.ref 0), some (.ref q), some (.int (many : Nat)), j, some (.ref (H5.length + 5)), some (.ref (H5.length + 6)), y7, y8, some (.rol (DS.map Deed.enc)), some (.ref p1)] (K1.set p1 (.lst (es.map evD ++ [.non]))) = .ok (.ret (.bl true)) K2 := by
    unfold l13
    rw [mRet_eq, mOp_eq, mCall_eq, mCons_eq, mVar_eq (show _ = some (some (D.rol (DS.map Deed.enc))) from rfl), R.bnd_ok, mNil_eq, R.bnd_ok, R.bnd_ok, r13, R.bnd_ok, mVar_eq (show _ = some (some (D.ref (H5.length + 6))) from rfl), R.bnd_ok, eq_evs kp2 k2d T.eok]; rfl
  refine ⟨[], ?_⟩
  have r : b_law [some (.rol NS), none, none, none, none, none, none, none, none, none, none] [] = .ok (.ret (.bl true)) K2 := by
    rw [law_eq, mSeq_eq, s1, SR.seq_next, mSeq_eq, s2, SR.seq_next, mSeq_eq, s3, SR.seq_next, mSeq_eq, s4, SR.seq_next, mSeq_eq, s5, SR.seq_next, mSeq_eq, s6, SR.seq_next, mSeq_eq, s7, SR.seq_next, mSeq_eq, s8, SR.seq_next, mSeq_eq, s9, SR.seq_next, mSeq_eq, s10, SR.seq_next, mSeq_eq, s11, SR.seq_next, mSeq_eq, s12, SR.seq_next, s13]
  show mFn 1 11 b_law [.rol NS] [] = _
  rw [mFn_eq (by rfl)]
  show mEnd [] (b_law [some (.rol NS), none, none, none, none, none, none, none, none, none, none] []) = _
  rw [r]
  show leave [] (.bl true) K2 = _
  rw [leave_eq ⟨Nat.zero_le _, fun k o hk _ => absurd hk (Nat.not_lt_zero _)⟩ rfl]; rfl
end K51
open PySem PySem.W PyProof.Rows
set_option maxHeartbeats 0 in
theorem PySem.Challenge.cw_escheat_k51_replayed_log_holds : PySem.Challenge.rw_escheat_k51_replayed_log.Holds := by
  refine K51_head ?_
  k_fill
  refine MM.walk_ofG (l := PySem.Challenge.rw_escheat_k51_replayed_log) (n := 63) (k := 8) (x := "script") (sp := fun w => MM.spOf _ K51.m_law) rfl (by decide) rfl ⟨rfl, by decide, by decide⟩ (fun w h Y => PySem.W.kIn_of Y) ?F (fun _ _ a ns hl _ hS => MM.law_end hS (K51.law_true ns hl))
  case F =>
    intro w mg fa h KX G hmg
    refine' K51.law_facts KX G hmg ?ac_Watch ?pg_Watch ?hd_Watch ?po_Watch ?sa_Watch ?no_Watch_is_on ?no_Watch_log ?no_Watch_store ?mk_Watch ?kc_Watch ?ac_Store ?pg_Store ?hd_Store ?po_Store ?sa_Store ?no_Store_begun ?no_Store_free ?no_Store_owners ?no_Store_regions ?no_Store_total ?no_Store_watch ?no_Store_words ?mk_Store ?kc_Store ?ac_Region ?pg_Region ?hd_Region ?po_Region ?sa_Region ?no_Region_behind ?no_Region_pages_taken ?no_Region_words ?mk_Region ?kc_Region ?a0 ?l0 ?c0 ?k0 ?a1 ?l1 ?c1 ?k1 ?a2 ?j2 ?l2 ?c2 ?k2 ?a3 ?j3 ?l3 ?c3 ?k3 ?a4 ?j4 ?l4 ?c4 ?k4 ?a5 ?j5 ?l5 ?c5 ?k5 ?a6 ?j6 ?l6 ?c6 ?k6 ?a7 ?j7 ?l7 ?c7 ?k7 ?a8 ?j8 ?l8 ?c8 ?k8 ?a9 ?l9 ?c9 ?k9 ?a10 ?j10 ?l10 ?c10 ?k10 ?a11 ?j11 ?l11 ?c11 ?k11 ?a12 ?j12 ?l12 ?c12 ?k12 ?a13 ?j13 ?l13 ?c13 ?k13 ?a14 ?j14 ?l14 ?c14 ?k14 ?a15 ?j15 ?l15 ?c15 ?k15 ?a16 ?l16 ?c16 ?k16 ?a17 ?j17 ?l17 ?c17 ?k17 ?a18 ?l18 ?c18 ?k18 ?a19 ?j19 ?l19 ?c19 ?k19 ?a20 ?j20 ?l20 ?c20 ?k20 ?a21 ?j21 ?l21 ?c21 ?k21 ?a22 ?l22 ?c22 ?k22 ?a23 ?j23 ?l23 ?c23 ?k23 ?a24 ?l24 ?c24 ?k24 ?a25 ?l25 ?c25 ?k25 ?a26 ?l26 ?c26 ?k26 ?a27 ?l27 ?c27 ?k27 ?a28 ?l28 ?c28 ?k28 ?a29 ?l29 ?c29 ?k29 ?a30 ?l30 ?c30 ?k30 ?a31 ?l31 ?c31 ?k31 ?a32 ?l32 ?c32 ?k32 ?a33 ?l33 ?c33 ?k33 ?a34 ?l34 ?c34 ?k34 ?a35 ?l35 ?c35 ?k35 ?a36 ?l36 ?c36 ?k36 ?xa_StoreError ?xi_StoreError ?xl_StoreError ?xt_StoreError ?xk_StoreError ?xo_StoreError ?xv_StoreError ?xs_StoreError ?xb_StoreError ?xy_StoreError ?xp_StoreError ?xc_StoreError ?xd_StoreError ?xf_StoreError ?xg_StoreError ?xu_StoreError ?xn_StoreError ?xw_StoreError ?xm_StoreError ?xz_StoreError ?xe_StoreError ?xq_StoreError ?ya_StoreError ?yb_StoreError ?yc_StoreError ?yd_StoreError ?ye_StoreError ?yf_StoreError ?yg_StoreError ?yh_StoreError ?yi_StoreError ?yj_StoreError ?yk_StoreError ?yl_StoreError ?z_int ?z_list ?z_len ?z_enumerate ?z_range ?z_abs ?z_isinstance ?z_repr ?g_NOBODY ?g_PAGE_WORDS ?g_DEEDS ?l_DEEDS ?y_DEEDS ?o_DEEDS ?r_DEEDS
    (case ac_Watch => k_is); (case pg_Watch => k_is); (case hd_Watch => k_is); (case po_Watch => k_is); (case sa_Watch => k_is); (case no_Watch_is_on => k_is); (case no_Watch_log => k_is); (case no_Watch_store => k_is); (case mk_Watch => k_is); (case kc_Watch => k_is); (case ac_Store => k_is); (case pg_Store => k_is); (case hd_Store => k_is); (case po_Store => k_is); (case sa_Store => k_is); (case no_Store_begun => k_is); (case no_Store_free => k_is); (case no_Store_owners => k_is); (case no_Store_regions => k_is); (case no_Store_total => k_is); (case no_Store_watch => k_is); (case no_Store_words => k_is); (case mk_Store => k_is); (case kc_Store => k_is); (case ac_Region => k_is); (case pg_Region => k_is); (case hd_Region => k_is); (case po_Region => k_is); (case sa_Region => k_is); (case no_Region_behind => k_is); (case no_Region_pages_taken => k_is); (case no_Region_words => k_is); (case mk_Region => k_is); (case kc_Region => k_is); (case a0 => k_is); (case l0 => k_is); (case c0 => k_is); (case k0 => k_is); (case a1 => k_is); (case l1 => k_is); (case c1 => k_is); (case k1 => k_is); (case a2 => k_is); (case j2 => k_is); (case l2 => k_is); (case c2 => k_is); (case k2 => k_is); (case a3 => k_is); (case j3 => k_is); (case l3 => k_is); (case c3 => k_is); (case k3 => k_is); (case a4 => k_is); (case j4 => k_is); (case l4 => k_is); (case c4 => k_is); (case k4 => k_is); (case a5 => k_is); (case j5 => k_is); (case l5 => k_is); (case c5 => k_is); (case k5 => k_is); (case a6 => k_is); (case j6 => k_is); (case l6 => k_is); (case c6 => k_is); (case k6 => k_is); (case a7 => k_is); (case j7 => k_is); (case l7 => k_is); (case c7 => k_is); (case k7 => k_is); (case a8 => k_is); (case j8 => k_is); (case l8 => k_is); (case c8 => k_is); (case k8 => k_is); (case a9 => k_is); (case l9 => k_is); (case c9 => k_is); (case k9 => k_is); (case a10 => k_is); (case j10 => k_is); (case l10 => k_is); (case c10 => k_is); (case k10 => k_is); (case a11 => k_is); (case j11 => k_is); (case l11 => k_is); (case c11 => k_is); (case k11 => k_is); (case a12 => k_is); (case j12 => k_is); (case l12 => k_is); (case c12 => k_is); (case k12 => k_is); (case a13 => k_is); (case j13 => k_is); (case l13 => k_is); (case c13 => k_is); (case k13 => k_is); (case a14 => k_is); (case j14 => k_is); (case l14 => k_is); (case c14 => k_is); (case k14 => k_is); (case a15 => k_is); (case j15 => k_is); (case l15 => k_is); (case c15 => k_is); (case k15 => k_is); (case a16 => k_is); (case l16 => k_is); (case c16 => k_is); (case k16 => k_is); (case a17 => k_is); (case j17 => k_is); (case l17 => k_is); (case c17 => k_is); (case k17 => k_is); (case a18 => k_is); (case l18 => k_is); (case c18 => k_is); (case k18 => k_is); (case a19 => k_is); (case j19 => k_is); (case l19 => k_is); (case c19 => k_is); (case k19 => k_is); (case a20 => k_is); (case j20 => k_is); (case l20 => k_is); (case c20 => k_is); (case k20 => k_is); (case a21 => k_is); (case j21 => k_is); (case l21 => k_is); (case c21 => k_is); (case k21 => k_is); (case a22 => k_is); (case l22 => k_is); (case c22 => k_is); (case k22 => k_is); (case a23 => k_is); (case j23 => k_is); (case l23 => k_is); (case c23 => k_is); (case k23 => k_is); (case a24 => k_is); (case l24 => k_is); (case c24 => k_is); (case k24 => k_is); (case a25 => k_is); (case l25 => k_is); (case c25 => k_is); (case k25 => k_is); (case a26 => k_is); (case l26 => k_is); (case c26 => k_is); (case k26 => k_is); (case a27 => k_is); (case l27 => k_is); (case c27 => k_is); (case k27 => k_is); (case a28 => k_is); (case l28 => k_is); (case c28 => k_is); (case k28 => k_is); (case a29 => k_is); (case l29 => k_is); (case c29 => k_is); (case k29 => k_is); (case a30 => k_is); (case l30 => k_is); (case c30 => k_is); (case k30 => k_is); (case a31 => k_is); (case l31 => k_is); (case c31 => k_is); (case k31 => k_is); (case a32 => k_is); (case l32 => k_is); (case c32 => k_is); (case k32 => k_is); (case a33 => k_is); (case l33 => k_is); (case c33 => k_is); (case k33 => k_is); (case a34 => k_is); (case l34 => k_is); (case c34 => k_is); (case k34 => k_is); (case a35 => k_is); (case l35 => k_is); (case c35 => k_is); (case k35 => k_is); (case a36 => k_is); (case l36 => k_is); (case c36 => k_is); (case k36 => k_is); (case xa_StoreError => k_is); (case xi_StoreError => k_is); (case xl_StoreError => k_is); (case xt_StoreError => k_is); (case xk_StoreError => k_is); (case xo_StoreError => k_is); (case xv_StoreError => kernel_rfl); (case xs_StoreError => k_is); (case xb_StoreError => first | k_is | kernel_rfl); (case xy_StoreError => first | k_is | kernel_rfl); (case xp_StoreError => k_is); (case xc_StoreError => k_is); (case xd_StoreError => k_is); (case xf_StoreError => first | rfl | kernel_rfl); (case xg_StoreError => kernel_rfl); (case xu_StoreError => first | k_is | kernel_rfl); (case xn_StoreError => k_is); (case xw_StoreError => first | k_is | kernel_rfl); (case xm_StoreError => first | k_is | kernel_rfl); (case xz_StoreError => kernel_rfl); (case xe_StoreError => k_is); (case xq_StoreError => k_is); (case ya_StoreError => k_is); (case yb_StoreError => k_is); (case yc_StoreError => k_is); (case yd_StoreError => first | k_is | kernel_rfl); (case ye_StoreError => k_is); (case yf_StoreError => k_is); (case yg_StoreError => k_is); (case yh_StoreError => k_is); (case yi_StoreError => k_is); (case yj_StoreError => first | k_is | kernel_rfl); (case yk_StoreError => first | k_is | kernel_rfl); (case yl_StoreError => first | k_is | kernel_rfl); (case z_int => k_is); (case z_list => k_is); (case z_len => k_is); (case z_enumerate => k_is); (case z_range => k_is); (case z_abs => k_is); (case z_isinstance => k_is); (case z_repr => k_is); (case g_NOBODY => k_is); (case g_PAGE_WORDS => k_is); (case g_DEEDS => k_is); (case l_DEEDS => k_is); (case y_DEEDS => k_keys); (case o_DEEDS => decide); (case r_DEEDS => kernel_rfl)
