import PyProof.Rows.All
import Wide.All
import OpenK.AllK
import Wide.FinOn
import KE.KStateDown
import HandS.ForMost
import HandS.WordsExc
import HandS.Defaults
import HandS.WideBits
import HandS.HeadHook1
import HandS.HeadHook2
import HandS.EndBits
import HandS.TupAny
import HandS.IsInst
import HandS.Star
import HandS.Property
import HandS.OwnEq
import HandS.SortRule
import HandS.SortOrd
import HandS.ExcValue
import HandS.Iter
import HandS.Deep
import HandS.More
import HandS.Codes
import HandS.Small
import HandS.FStr
import HandS.StrMore
import HandS.NoneIn
import HandS.SetFor
import PyProof.Rows.RegCountFlat
import HandS.ClsMeth
import HandS.MapObj
import HandS.RepeatKit
import PyProof.AutoIntOps
import PyProof.ZipIter
import HandS.Strs
import HandS.SetBool
import HandS.RevRange
import HandS.Style
import HandS.Zip
import HandS.Dict
import HandS.ExcOwn
import HandS.ExcInit
import HandS.ExcField
import HandS.ExcIs
import KE.KExcIs
import HandS.Head0
import HandS.Head1
import HandS.Head2
import HandS.Head3
import HandS.HeadEnd
import HandS.HeadNt
import PySem.Challenge.RW_freshpromise_k08_wrong_pairs
set_option Elab.async false
set_option linter.all false
set_option maxRecDepth 100000
set_option maxHeartbeats 2000000
namespace FL
open PySem PySem.Spec PyProof.Rows L2

/-! ## Data as trees -/
inductive D where
  | non | bl (b : Bool) | int (i : Int) | str (x : Str)
  | lst (xs : List D) | tup (xs : List D) | dic (kvs : List (Key × D)) | obj (c : Str) (fs : List (Str × D)) | scr (ns : List Int) | kls (c : Str)
instance : Inhabited D := ⟨.non⟩

/-- a tuple that is read: tracked, or an object of the module -/
def TpAt (K : PySem.W.Frag) (S : Hp) (a : Addr) (xs : List V) : Prop := S a = some (.tup xs) ∨
  ∃ (o : Obj) (its : Array Value) (n : Nat), K.lookup a = some o ∧ o.cls = .type "tuple" ∧ o.data = .seq its n ∧ its.size ≤ sizeLine ∧ Vals xs its.toList
theorem TpAt.sq {K : PySem.W.Frag} {S : Hp} {a : Addr} {xs : List V} (h : TpAt K S a xs) : SqT K S a xs := h.elim (fun z => .inl (.inl z)) .inr
theorem TpAt.same {K : PySem.W.Frag} {S S' : Hp} {a : Addr} {xs : List V} (h : TpAt K S a xs) (e : Same S S') : TpAt K S' a xs := h.elim (fun z => .inl (e _ _ z)) .inr
mutual
/-- d stands at v, in the part S of the heap that nobody changes any more -/
inductive RelD (K : PySem.W.Frag) (S : Hp) : D → V → Prop
  | non : RelD K S .non .non
  | bl (b : Bool) : RelD K S (.bl b) (.bl b)
  | int (i : Int) : RelD K S (.int i) (.int i)
  | str (x : Str) : RelD K S (.str x) (.str x)
  | kls (c : Str) : RelD K S (.kls c) (.ref (He.ga K c))
  | lst {a : Addr} {xs : List D} {vs : List V} : S a = some (.lst vs) → RelDs K S xs vs → RelD K S (.lst xs) (.ref a)
  | scr {a : Addr} {ns : List Int} : SqL K S a (ns.map V.int) → RelD K S (.scr ns) (.ref a)
  | tup {a : Addr} {xs : List D} {vs : List V} : TpAt K S a vs → RelDs K S xs vs → RelD K S (.tup xs) (.ref a)
  | dic {a : Addr} {xs : List (Key × D)} {vs : List (Key × V)} : S a = some (.dK vs) → RelKs K S xs vs → RelD K S (.dic xs) (.ref a)
  | obj {a dx : Addr} {c : Str} {xs : List (Str × D)} {vs : List (Str × V)} : S a = some (.ins (He.ga K c) dx vs) → RelFs K S xs vs → RelD K S (.obj c xs) (.ref a)
inductive RelDs (K : PySem.W.Frag) (S : Hp) : List D → List V → Prop
  | nil : RelDs K S [] []
  | cons {d : D} {ds : List D} {v : V} {vs : List V} : RelD K S d v → RelDs K S ds vs → RelDs K S (d :: ds) (v :: vs)
inductive RelKs (K : PySem.W.Frag) (S : Hp) : List (Key × D) → List (Key × V) → Prop
  | nil : RelKs K S [] []
  | cons {k : Key} {d : D} {ds : List (Key × D)} {v : V} {vs : List (Key × V)} : RelD K S d v → RelKs K S ds vs → RelKs K S ((k, d) :: ds) ((k, v) :: vs)
inductive RelFs (K : PySem.W.Frag) (S : Hp) : List (Str × D) → List (Str × V) → Prop
  | nil : RelFs K S [] []
  | cons {k : Str} {d : D} {ds : List (Str × D)} {v : V} {vs : List (Str × V)} : RelD K S d v → RelFs K S ds vs → RelFs K S ((k, d) :: ds) ((k, v) :: vs)
end

theorem sqT_same {K : PySem.W.Frag} {H H' : Hp} {a : Addr} {xs : List V} (e : Same H H') (h : SqT K H a xs) : SqT K H' a xs := by
  rcases h with (h | ⟨o, h⟩) | h
  · exact .inl (.inl (e _ _ h))
  · exact .inl (.inr ⟨o, e _ _ h⟩)
  · exact .inr h

section
variable {K : PySem.W.Frag} {S S' : Hp}
mutual
theorem RelD.mono (e : Same S S') : ∀ {d : D} {v : V}, RelD K S d v → RelD K S' d v
  | _, _, .non => .non
  | _, _, .bl b => .bl b
  | _, _, .int i => .int i
  | _, _, .str x => .str x
  | _, _, .kls x => .kls x
  | _, _, .lst h r => .lst (e _ _ h) (RelDs.mono e r)
  | _, _, .scr h => .scr (e.seq h)
  | _, _, .tup h r => .tup (h.same e) (RelDs.mono e r)
  | _, _, .dic h r => .dic (e _ _ h) (RelKs.mono e r)
  | _, _, .obj h r => .obj (e _ _ h) (RelFs.mono e r)
theorem RelDs.mono (e : Same S S') : ∀ {d : List D} {v : List V}, RelDs K S d v → RelDs K S' d v
  | _, _, .nil => .nil
  | _, _, .cons h r => .cons (RelD.mono e h) (RelDs.mono e r)
theorem RelKs.mono (e : Same S S') : ∀ {d : List (Key × D)} {v : List (Key × V)}, RelKs K S d v → RelKs K S' d v
  | _, _, .nil => .nil
  | _, _, .cons h r => .cons (RelD.mono e h) (RelKs.mono e r)
theorem RelFs.mono (e : Same S S') : ∀ {d : List (Str × D)} {v : List (Str × V)}, RelFs K S d v → RelFs K S' d v
  | _, _, .nil => .nil
  | _, _, .cons h r => .cons (RelD.mono e h) (RelFs.mono e r)
end
theorem RelDs.length : ∀ {ds : List D} {vs : List V}, RelDs K S ds vs → ds.length = vs.length
  | _, _, .nil => rfl
  | _, _, .cons _ r => congrArg (· + 1) (RelDs.length r)
theorem RelDs.get : ∀ {ds : List D} {vs : List V} {i : Nat} {d : D}, RelDs K S ds vs → ds[i]? = some d → ∃ v, vs[i]? = some v ∧ RelD K S d v
  | _, _, 0, d, .cons h r, e => by
    simp at e; subst e; exact ⟨_, rfl, h⟩
  | _, _, i + 1, d, .cons h r, e => by
    obtain ⟨v, a, b⟩ := RelDs.get (i := i) (d := d) r (by simpa using e)
    exact ⟨v, by simpa using a, b⟩
  | _, _, _, _, .nil, e => by simp at e
theorem RelDs.append : ∀ {ds es : List D} {vs us : List V}, RelDs K S ds vs → RelDs K S es us → RelDs K S (ds ++ es) (vs ++ us)
  | _, _, _, _, .nil, s => s
  | _, _, _, _, .cons h r, s => .cons h (RelDs.append r s)
theorem RelDs.take : ∀ {ds : List D} {vs : List V} (n : Nat), RelDs K S ds vs → RelDs K S (ds.take n) (vs.take n)
  | _, _, 0, _ => by simpa using RelDs.nil
  | _, _, _ + 1, .nil => .nil
  | _, _, n + 1, .cons h r => .cons h (RelDs.take n r)
theorem RelDs.drop : ∀ {ds : List D} {vs : List V} (n : Nat), RelDs K S ds vs → RelDs K S (ds.drop n) (vs.drop n)
  | _, _, 0, r => r
  | _, _, _ + 1, .nil => .nil
  | _, _, n + 1, .cons h r => RelDs.drop n r
theorem RelDs.set {d : D} {v : V} (h : RelD K S d v) : ∀ {ds : List D} {vs : List V} (i : Nat), RelDs K S ds vs → RelDs K S (ds.set i d) (vs.set i v)
  | _, _, _, .nil => .nil
  | _, _, 0, .cons _ r => .cons h r
  | _, _, i + 1, .cons q r => .cons q (RelDs.set h i r)
theorem RelDs.ints : ∀ {ns : List Int} {vs : List V}, RelDs K S (ns.map D.int) vs → vs = ns.map V.int
  | [], _, .nil => rfl
  | n :: ns, _, .cons h r => by
    cases h
    rw [RelDs.ints r]; rfl
theorem RelDs.of_ints : ∀ (ns : List Int), RelDs K S (ns.map D.int) (ns.map V.int)
  | [] => .nil
  | n :: ns => .cons (.int n) (RelDs.of_ints ns)
end

/-! ## The slots of a def -/
/-- a slot: without a value; a value that is shared; an object that this def alone may change (fr: it was made here, so it may be let go) -/
inductive Sl where
  | un | sh (d : D) | ow (fr : Bool) (d : D)
abbrev En := List Sl

/-- an own object stands at p -/
def OwnAt (K : PySem.W.Frag) (S H : Hp) (d : D) (p : Addr) : Prop := match d with
  | .lst ds => ∃ vs, H p = some (.lst vs) ∧ RelDs K S ds vs
  | .dic ds => ∃ vs, H p = some (.dK vs) ∧ RelKs K S ds vs
  | .obj c fs => ∃ dx vs, H p = some (.ins (He.ga K c) dx vs) ∧ RelFs K S fs vs
  | _ => False

structure ER (K : PySem.W.Frag) (L : Nat → Option Addr) (S0 H0 S H : Hp) (σ : L2.St) (env : En) : Prop where
  sub : Same S H
  len : env.length = σ.length
  sh : ∀ (i : Nat) (d : D), env[i]? = some (.sh d) → ∃ v, σ[i]? = some (some v) ∧ RelD K S d v
  ow : ∀ (i : Nat) (f : Bool) (d : D), env[i]? = some (.ow f d) → ∃ p, σ[i]? = some (some (.ref p)) ∧ OwnAt K S H d p ∧ S p = none ∧ (if f = true then H0 p = none else L i = some p)
  dis : ∀ (i j : Nat) (f g : Bool) (d e : D) (p : Addr), i ≠ j → env[i]? = some (.ow f d) → env[j]? = some (.ow g e) → σ[i]? = some (some (.ref p)) → σ[j]? ≠ some (some (.ref p))
  s0 : Same S0 S
  dom : ∀ b, H0 b ≠ none → H b ≠ none
  kep : ∀ b o, H0 b = some o → (∀ i, L i ≠ some b) → H b = some o
  frs : ∀ b, S b ≠ none → S0 b ≠ none ∨ H0 b = none
  lnt : ∀ (i : Nat) (p : Addr), L i = some p → σ[i]? = some (some (.ref p)) ∧ ∃ d, env[i]? = some (.ow false d)
  lsd : ∀ (i : Nat) (p : Addr), L i = some p → H0 p ≠ none

theorem OwnAt.there {K : PySem.W.Frag} {S H : Hp} {d : D} {p : Addr} (h : OwnAt K S H d p) : H p ≠ none := by
  cases d <;> first | exact h.elim | (obtain ⟨dx, vs, e, _⟩ := h; rw [e]; exact fun z => nomatch z) | (obtain ⟨vs, e, _⟩ := h; rw [e]; exact fun z => nomatch z)
theorem OwnAt.mono {K : PySem.W.Frag} {S S' H H' : Hp} {d : D} {p : Addr} (h : OwnAt K S H d p) (e : Same S S') (hp : H' p = H p) : OwnAt K S' H' d p := by
  cases d <;> first | exact h.elim | skip
  · obtain ⟨vs, q, r⟩ := h; exact ⟨vs, hp.trans q, r.mono e⟩
  · obtain ⟨vs, q, r⟩ := h; exact ⟨vs, hp.trans q, r.mono e⟩
  · obtain ⟨dx, vs, q, r⟩ := h; exact ⟨dx, vs, hp.trans q, r.mono e⟩
theorem OwnAt.rel {K : PySem.W.Frag} {S H : Hp} {d : D} {p : Addr} (h : OwnAt K S H d p) (hs : Same S H) : RelD K H d (.ref p) := by
  cases d <;> first | exact h.elim | skip
  · obtain ⟨vs, q, r⟩ := h; exact .lst q (r.mono hs)
  · obtain ⟨vs, q, r⟩ := h; exact .dic q (r.mono hs)
  · obtain ⟨dx, vs, q, r⟩ := h; exact .obj q (r.mono hs)

/-- a new object is laid, and nobody owns it -/
theorem ER.laid {K : PySem.W.Frag} {L : Nat → Option Addr} {S0 H0 S H : Hp} {σ : L2.St} {env : En} (h : ER K L S0 H0 S H σ env) {p : Addr} (o : HO) (hp : H p = none) : ER K L S0 H0 (upd S p o) (upd H p o) σ env := by
  have hS : S p = none := h.sub.free hp
  have e1 : Same S (upd S p o) := fun b u q => by rw [upd_ne (ne_of_none q hS)]; exact q
  have ne : ∀ b, H b ≠ none → b ≠ p := fun b q z => by subst z; exact q hp
  refine ⟨fun b u q => ?_, h.len, fun i d q => ?_, fun i f d q => ?_, h.dis, fun b u q => e1 b u (h.s0 b u q), fun b q => ?_, fun b u q r => ?_, fun b q => ?_, h.lnt, h.lsd⟩
  · by_cases hb : b = p
    · subst hb; rw [upd_same] at q ⊢; exact q
    · rw [upd_ne hb] at q ⊢; exact h.sub b u q
  · obtain ⟨v, a, r⟩ := h.sh i d q
    exact ⟨v, a, r.mono e1⟩
  · obtain ⟨a, x, y, z, w⟩ := h.ow i f d q
    have na := ne a y.there
    exact ⟨a, x, y.mono e1 (upd_ne na), by rw [upd_ne na]; exact z, w⟩
  · rw [upd_ne (ne b (h.dom b q))]; exact h.dom b q
  · have z := h.kep b u q r
    rw [upd_ne (ne_of_none z hp)]; exact z
  · by_cases hb : b = p
    · subst hb
      refine .inr ?_
      cases e : H0 b with
      | none => rfl
      | some u => exact absurd hp (h.dom b (by rw [e]; exact fun z => nomatch z))
    · rw [upd_ne hb] at q; exact h.frs b q
theorem same_upd {S : Hp} {p : Addr} {o : HO} (hS : S p = none) : Same S (upd S p o) := fun b u q => by rw [upd_ne (ne_of_none q hS)]; exact q
/-- a new object is laid that slot i is to own -/
theorem ER.lay {K : PySem.W.Frag} {L : Nat → Option Addr} {S0 H0 S H : Hp} {σ : L2.St} {env : En} (h : ER K L S0 H0 S H σ env) {p : Addr} (o : HO) (hp : H p = none) : ER K L S0 H0 S (upd H p o) σ env := by
  have hS : S p = none := h.sub.free hp
  have ne : ∀ b, H b ≠ none → b ≠ p := fun b q z => by subst z; exact q hp
  refine ⟨fun b u q => ?_, h.len, h.sh, fun i f d q => ?_, h.dis, h.s0, fun b q => ?_, fun b u q r => ?_, h.frs, h.lnt, h.lsd⟩
  · rw [upd_ne (ne_of_none q hS)]; exact h.sub b u q
  · obtain ⟨a, x, y, z, w⟩ := h.ow i f d q
    exact ⟨a, x, y.mono (Same.refl _) (upd_ne (ne a y.there)), z, w⟩
  · rw [upd_ne (ne b (h.dom b q))]; exact h.dom b q
  · have z := h.kep b u q r
    rw [upd_ne (ne_of_none z hp)]; exact z
/-- slot i is given a shared value -/
theorem ER.put {K : PySem.W.Frag} {L : Nat → Option Addr} {S0 H0 S H : Hp} {σ : L2.St} {env : En} (h : ER K L S0 H0 S H σ env) {i : Nat} {d : D} {v : V} (hL : ∀ e, env[i]? ≠ some (.ow false e)) (r : RelD K S d v) : ER K L S0 H0 S H (σ.set i (some v)) (env.set i (.sh d)) := by
  have hLi : ∀ p, L i ≠ some p := fun p z => by obtain ⟨_, e, q⟩ := h.lnt i p z; exact hL e q
  refine ⟨h.sub, by simp [h.len], fun j e q => ?_, fun j f e q => ?_, fun j k f g d' e p hjk q1 q2 q3 => ?_, h.s0, h.dom, h.kep, h.frs, fun j p q => ?_, h.lsd⟩
  · by_cases hj : j = i
    · subst hj
      have hl : j < env.length := by
        have := (List.getElem?_eq_some_iff.mp q).1; simpa using this
      rw [List.getElem?_set_self hl] at q
      cases q
      exact ⟨v, List.getElem?_set_self (by rw [← h.len]; exact hl), r⟩
    · rw [List.getElem?_set_ne (Ne.symm hj)] at q ⊢
      exact h.sh j e q
  · by_cases hj : j = i
    · subst hj
      have hl : j < env.length := by
        have := (List.getElem?_eq_some_iff.mp q).1; simpa using this
      rw [List.getElem?_set_self hl] at q
      cases q
    · rw [List.getElem?_set_ne (Ne.symm hj)] at q ⊢
      exact h.ow j f e q
  · have aux : ∀ (j : Nat) (f : Bool) (e : D), (env.set i (Sl.sh d))[j]? = some (.ow f e) → j ≠ i ∧ env[j]? = some (.ow f e) := fun j f e q => by
      by_cases hj : j = i
      · subst hj
        have hl : j < env.length := by
          have := (List.getElem?_eq_some_iff.mp q).1; simpa using this
        rw [List.getElem?_set_self hl] at q
        cases q
      · rw [List.getElem?_set_ne (Ne.symm hj)] at q; exact ⟨hj, q⟩
    obtain ⟨n1, q1⟩ := aux j f d' q1
    obtain ⟨n2, q2⟩ := aux k g e q2
    rw [List.getElem?_set_ne (Ne.symm n1)] at q3
    rw [List.getElem?_set_ne (Ne.symm n2)]
    exact h.dis j k f g d' e p hjk q1 q2 q3
  · have hj : j ≠ i := fun z => by subst z; exact hLi p q
    rw [List.getElem?_set_ne (Ne.symm hj), List.getElem?_set_ne (Ne.symm hj)]
    exact h.lnt j p q
/-- slot i is given an object of its own -/
theorem ER.putOwn {K : PySem.W.Frag} {L : Nat → Option Addr} {S0 H0 S H : Hp} {σ : L2.St} {env : En} (h : ER K L S0 H0 S H σ env) {i : Nat} {d : D} {p : Addr} (hL : ∀ e, env[i]? ≠ some (.ow false e)) (r : OwnAt K S H d p) (hS : S p = none) (hH : H0 p = none)
    (hn : ∀ j f e, j ≠ i → env[j]? = some (.ow f e) → σ[j]? ≠ some (some (.ref p))) : ER K L S0 H0 S H (σ.set i (some (.ref p))) (env.set i (.ow true d)) := by
  have hLi : ∀ p, L i ≠ some p := fun p z => by obtain ⟨_, e, q⟩ := h.lnt i p z; exact hL e q
  have aux : ∀ (j : Nat) (f : Bool) (e : D), (env.set i (Sl.ow true d))[j]? = some (.ow f e) → (j = i ∧ i < env.length ∧ f = true ∧ e = d) ∨ (j ≠ i ∧ env[j]? = some (.ow f e)) := fun j f e q => by
    by_cases hj : j = i
    · subst hj
      have hl : j < env.length := by
        have := (List.getElem?_eq_some_iff.mp q).1; simpa using this
      rw [List.getElem?_set_self hl] at q
      cases q
      exact .inl ⟨rfl, hl, rfl, rfl⟩
    · rw [List.getElem?_set_ne (Ne.symm hj)] at q; exact .inr ⟨hj, q⟩
  refine ⟨h.sub, by simp [h.len], fun j e q => ?_, fun j f e q => ?_, fun j k f g d' e p' hjk q1 q2 q3 => ?_, h.s0, h.dom, h.kep, h.frs, fun j p q => ?_, h.lsd⟩
  · by_cases hj : j = i
    · subst hj
      have hl : j < env.length := by
        have := (List.getElem?_eq_some_iff.mp q).1; simpa using this
      rw [List.getElem?_set_self hl] at q
      cases q
    · rw [List.getElem?_set_ne (Ne.symm hj)] at q ⊢
      exact h.sh j e q
  · rcases aux j f e q with ⟨rfl, hl, rfl, rfl⟩ | ⟨hj, q⟩
    · exact ⟨p, List.getElem?_set_self (by rw [← h.len]; exact hl), r, hS, by rw [if_pos rfl]; exact hH⟩
    · rw [List.getElem?_set_ne (Ne.symm hj)]
      exact h.ow j f e q
  · rcases aux j f d' q1 with ⟨rfl, hl, rfl, rfl⟩ | ⟨n1, r1⟩
    · rcases aux k g e q2 with ⟨rfl, _, _, _⟩ | ⟨n2, r2⟩
      · exact absurd rfl hjk
      · rw [List.getElem?_set_self (by rw [← h.len]; exact hl)] at q3
        cases q3
        rw [List.getElem?_set_ne (Ne.symm n2)]
        exact hn k g e n2 r2
    · rw [List.getElem?_set_ne (Ne.symm n1)] at q3
      rcases aux k g e q2 with ⟨rfl, hl, _, _⟩ | ⟨n2, r2⟩
      · intro z
        rw [List.getElem?_set_self (by rw [← h.len]; exact hl)] at z
        cases z
        exact hn j f d' n1 r1 q3
      · rw [List.getElem?_set_ne (Ne.symm n2)]
        exact h.dis j k f g d' e p' hjk r1 r2 q3
  · have hj : j ≠ i := fun z => by subst z; exact hLi p q
    rw [List.getElem?_set_ne (Ne.symm hj), List.getElem?_set_ne (Ne.symm hj)]
    exact h.lnt j p q
/-- the own object of slot i is changed -/
theorem ER.chg {K : PySem.W.Frag} {L : Nat → Option Addr} {S0 H0 S H H' : Hp} {σ : L2.St} {env : En} (h : ER K L S0 H0 S H σ env) {i : Nat} {f : Bool} {d d' : D} {p : Addr} (hi : env[i]? = some (.ow f d)) (hp : σ[i]? = some (some (.ref p)))
    (hH : ∀ b, b ≠ p → H' b = H b) (r : OwnAt K S H' d' p) : ER K L S0 H0 S H' σ (env.set i (.ow f d')) := by
  obtain ⟨p', e1, o1, sp, fl⟩ := h.ow i f d hi
  rw [hp] at e1
  cases e1
  have hl : i < env.length := (List.getElem?_eq_some_iff.mp hi).1
  have aux : ∀ (j : Nat) (g : Bool) (e : D), (env.set i (Sl.ow f d'))[j]? = some (.ow g e) → (j = i ∧ g = f ∧ e = d') ∨ (j ≠ i ∧ env[j]? = some (.ow g e)) := fun j g e q => by
    by_cases hj : j = i
    · subst hj
      rw [List.getElem?_set_self hl] at q
      cases q
      exact .inl ⟨rfl, rfl, rfl⟩
    · rw [List.getElem?_set_ne (Ne.symm hj)] at q; exact .inr ⟨hj, q⟩
  have old : ∀ (j : Nat) (g : Bool) (e : D), (env.set i (Sl.ow f d'))[j]? = some (.ow g e) → ∃ e', env[j]? = some (.ow g e') := fun j g e q => by
    rcases aux j g e q with ⟨rfl, rfl, _⟩ | ⟨_, q⟩
    · exact ⟨d, hi⟩
    · exact ⟨e, q⟩
  refine ⟨fun b u q => ?_, by simp [h.len], fun j e q => ?_, fun j g e q => ?_, fun j k g g' e e' p' hjk q1 q2 q3 => ?_, h.s0, fun b q => ?_, fun b u q q2 => ?_, h.frs, fun j p' q => ?_, h.lsd⟩
  · rw [hH b (fun z => by subst z; rw [sp] at q; cases q)]; exact h.sub b u q
  · have hj : j ≠ i := fun z => by subst z; rw [List.getElem?_set_self hl] at q; cases q
    rw [List.getElem?_set_ne (Ne.symm hj)] at q
    exact h.sh j e q
  · rcases aux j g e q with ⟨rfl, rfl, rfl⟩ | ⟨hj, q⟩
    · exact ⟨p, hp, r, sp, fl⟩
    · obtain ⟨a, x, y, z, w⟩ := h.ow j g e q
      refine ⟨a, x, y.mono (Same.refl _) (hH a fun z => ?_), z, w⟩
      subst z
      exact h.dis i j f g d e a (Ne.symm hj) hi q hp x
  · obtain ⟨e1, q1⟩ := old j g e q1
    obtain ⟨e2, q2⟩ := old k g' e' q2
    exact h.dis j k g g' e1 e2 p' hjk q1 q2 q3
  · by_cases hb : b = p
    · subst hb; exact r.there
    · rw [hH b hb]; exact h.dom b q
  · by_cases hb : b = p
    · subst hb
      cases f with
      | true => rw [if_pos rfl] at fl; rw [fl] at q; cases q
      | false => rw [if_neg (by decide)] at fl; exact absurd fl (q2 i)
    · rw [hH b hb]; exact h.kep b u q q2
  · obtain ⟨a, e, b⟩ := h.lnt j p' q
    refine ⟨a, ?_⟩
    by_cases hj : j = i
    · subst hj
      rw [hi] at b
      cases b
      exact ⟨d', List.getElem?_set_self hl⟩
    · rw [List.getElem?_set_ne (Ne.symm hj)]; exact ⟨e, b⟩
/-- the own object of slot i is let go: from now on nobody changes it -/
theorem ER.freeze {K : PySem.W.Frag} {L : Nat → Option Addr} {S0 H0 S H : Hp} {σ : L2.St} {env : En} (h : ER K L S0 H0 S H σ env) {i : Nat} {d : D} (hi : env[i]? = some (.ow true d)) :
    ∃ S' p, ER K L S0 H0 S' H σ (env.set i (.sh d)) ∧ Same S S' ∧ σ[i]? = some (some (.ref p)) ∧ RelD K S' d (.ref p) := by
  obtain ⟨p, e1, o1, sp, fl⟩ := h.ow i true d hi
  rw [if_pos rfl] at fl
  have hl : i < env.length := (List.getElem?_eq_some_iff.mp hi).1
  cases eo : H p with
  | none => exact absurd eo o1.there
  | some ob =>
    have e2 : Same S (upd S p ob) := same_upd sp
    have rd : RelD K (upd S p ob) d (.ref p) := by
      cases d <;> first | exact o1.elim | skip
      · obtain ⟨vs, q, r⟩ := o1
        rw [eo] at q; cases q
        exact .lst upd_same (r.mono e2)
      · obtain ⟨vs, q, r⟩ := o1
        rw [eo] at q; cases q
        exact .dic upd_same (r.mono e2)
      · obtain ⟨dx, vs, q, r⟩ := o1
        rw [eo] at q; cases q
        exact .obj upd_same (r.mono e2)
    refine ⟨upd S p ob, p, ⟨fun b u q => ?_, by simp [h.len], fun j e q => ?_, fun j g e q => ?_, fun j k g g' e e' p' hjk q1 q2 q3 => ?_, fun b u q => e2 b u (h.s0 b u q), h.dom, h.kep, fun b q => ?_, fun j p' q => ?_, h.lsd⟩, e2, e1, rd⟩
    · by_cases hb : b = p
      · subst hb; rw [upd_same] at q; rw [eo]; exact q
      · rw [upd_ne hb] at q; exact h.sub b u q
    · by_cases hj : j = i
      · subst hj
        rw [List.getElem?_set_self hl] at q
        cases q
        exact ⟨_, e1, rd⟩
      · rw [List.getElem?_set_ne (Ne.symm hj)] at q
        obtain ⟨v, a, b⟩ := h.sh j e q
        exact ⟨v, a, b.mono e2⟩
    · have hj : j ≠ i := fun z => by subst z; rw [List.getElem?_set_self hl] at q; cases q
      rw [List.getElem?_set_ne (Ne.symm hj)] at q
      obtain ⟨a, x, y, z, w⟩ := h.ow j g e q
      refine ⟨a, x, y.mono e2 rfl, ?_, w⟩
      rw [upd_ne fun z => ?_]
      · exact z
      · subst z
        exact h.dis i j true g d e a (Ne.symm hj) hi q e1 x
    · have aux : ∀ (j : Nat) (g : Bool) (e : D), (env.set i (Sl.sh d))[j]? = some (.ow g e) → env[j]? = some (.ow g e) := fun j g e q => by
        have hj : j ≠ i := fun z => by subst z; rw [List.getElem?_set_self hl] at q; cases q
        rw [List.getElem?_set_ne (Ne.symm hj)] at q; exact q
      exact h.dis j k g g' e e' p' hjk (aux _ _ _ q1) (aux _ _ _ q2) q3
    · by_cases hb : b = p
      · subst hb; exact .inr fl
      · rw [upd_ne hb] at q; exact h.frs b q
    · obtain ⟨a, e, b⟩ := h.lnt j p' q
      refine ⟨a, e, ?_⟩
      have hj : j ≠ i := fun z => by subst z; rw [hi] at b; cases b
      rw [List.getElem?_set_ne (Ne.symm hj)]; exact b
end FL

set_option Elab.async false
set_option linter.all false
set_option maxRecDepth 100000
set_option maxHeartbeats 2000000
namespace FL
open PySem PySem.Spec PyProof.Rows L2

/-! ## Readings by functions of the slots -/
abbrev M (α : Type) := En → Option (α × En)
/-- the slots that are lent, the parts of the heap at the def's entry -/
structure Ct where
  L : Nat → Option Addr
  S0 : Hp
  H0 : Hp
abbrev Er (K : PySem.W.Frag) (c : Ct) (S H : Hp) (σ : L2.St) (env : En) : Prop := ER K c.L c.S0 c.H0 S H σ env

/-- a value, or a slot whose object is looked at later -/
inductive Hd where
  | val (d : D) | slot (i : Nat)
def deref (env : En) : Hd → Option D
  | .val d => some d
  | .slot i => match env[i]? with
    | some (.sh d) => some d
    | some (.ow _ d) => some d
    | _ => none
def RelH (K : PySem.W.Frag) (S : Hp) (σ : L2.St) (h : Hd) (v : V) : Prop := match h with
  | .val d => RelD K S d v
  | .slot i => σ[i]? = some (some v)
/-- d is to be seen at v -/
def Vw (K : PySem.W.Frag) (S H : Hp) (d : D) (v : V) : Prop := RelD K S d v ∨ ∃ p, v = .ref p ∧ OwnAt K S H d p

def tM (K : PySem.W.Frag) (c : Ct) (f : M D) : TE := fun σ H Q => ∃ S env d env', Er K c S H σ env ∧ f env = some (d, env') ∧ ∀ S' H' v, Er K c S' H' σ env' → Same S S' → RelD K S' d v → Q v H'
def tH (K : PySem.W.Frag) (c : Ct) (f : M Hd) : TE := fun σ H Q => ∃ S env d env', Er K c S H σ env ∧ f env = some (d, env') ∧ ∀ S' H' v, Er K c S' H' σ env' → Same S S' → RelH K S' σ d v → Q v H'
def tMs (K : PySem.W.Frag) (c : Ct) (f : M (List D)) : TA := fun σ H Q => ∃ S env d env', Er K c S H σ env ∧ f env = some (d, env') ∧ ∀ S' H' v, Er K c S' H' σ env' → Same S S' → RelDs K S' d v → Q v H'
/-- a new object that nobody holds yet -/
def tO (K : PySem.W.Frag) (c : Ct) (f : M D) : TE := fun σ H Q => ∃ S env d env', Er K c S H σ env ∧ f env = some (d, env') ∧ ∀ S' H' p, Er K c S' H' σ env' → Same S S' → OwnAt K S' H' d p → S' p = none → c.H0 p = none →
  (∀ (j : Nat) (f : Bool) (e : D), env'[j]? = some (.ow f e) → σ[j]? ≠ some (some (.ref p))) → Q (.ref p) H'
def tMT (K : PySem.W.Frag) (c : Ct) (f : M Bool) : TT := fun σ H Q => ∃ S env d env', Er K c S H σ env ∧ f env = some (d, env') ∧ ∀ S' H', Er K c S' H' σ env' → Same S S' → Q d H'

inductive Out where
  | nx (e : En) | rt (d : D) (e : En) | bk (e : En) | ct (e : En) | ro (d : D) (e : En)
abbrev FS := En → Option Out
def oK (K : PySem.W.Frag) (c : Ct) (S : Hp) (D' : Ends) : Out → Prop
  | .nx e => ∀ S' H' σ', Er K c S' H' σ' e → Same S S' → D'.nx σ' H'
  | .rt d e => ∀ S' H' σ' v, Er K c S' H' σ' e → Same S S' → RelD K S' d v → D'.rt v H'
  | .bk e => ∀ S' H' σ', Er K c S' H' σ' e → Same S S' → D'.bk σ' H'
  | .ct e => ∀ S' H' σ', Er K c S' H' σ' e → Same S S' → D'.ct σ' H'
  | .ro d e => ∀ S' H' σ' p, Er K c S' H' σ' e → Same S S' → OwnAt K S' H' d p → S' p = none → c.H0 p = none → D'.rt (.ref p) H'
def tS (K : PySem.W.Frag) (c : Ct) (f : FS) : TS := fun D' σ H => ∃ S env o, Er K c S H σ env ∧ f env = some o ∧ oK K c S D' o
/-- a target is given a value -/
abbrev FG := D → En → Option En
def tG (K : PySem.W.Frag) (c : Ct) (f : FG) : TG := fun v σ H Q => ∃ S env d e', Er K c S H σ env ∧ RelD K S d v ∧ f d env = some e' ∧ ∀ σ' S' H', Er K c S' H' σ' e' → Same S S' → Q σ' H'

abbrev FE (X : Cx) (c : Ct) (e : Expr) (f : M D) : Prop := PE X e (tM X.K c f)
abbrev FH (X : Cx) (c : Ct) (e : Expr) (f : M Hd) : Prop := PE X e (tH X.K c f)
abbrev FO (X : Cx) (c : Ct) (e : Expr) (f : M D) : Prop := PE X e (tO X.K c f)
abbrev FA (X : Cx) (c : Ct) (es : List Expr) (f : M (List D)) : Prop := PA X es (tMs X.K c f)
abbrev FT (X : Cx) (c : Ct) (e : Expr) (f : M Bool) : Prop := PT X e (tMT X.K c f)
abbrev FSt (X : Cx) (c : Ct) (st : Stmt) (f : FS) : Prop := PS X st (tS X.K c f)
abbrev FSs (X : Cx) (c : Ct) (st : List Stmt) (f : FS) : Prop := PSs X st (tS X.K c f)
abbrev FGt (X : Cx) (c : Ct) (e : Expr) (f : FG) : Prop := PG X e (tG X.K c f)

theorem _root_.L2.PE.weak {X : Cx} {e : Expr} {t t' : TE} (h : PE X e t) (w : ∀ σ H Q, t' σ H Q → t σ H Q) : PE X e t' := ⟨fun pins s σ H Q I q => h.run pins s σ H Q I (w σ H Q q)⟩
theorem _root_.L2.PA.weak {X : Cx} {e : List Expr} {t t' : TA} (h : PA X e t) (w : ∀ σ H Q, t' σ H Q → t σ H Q) : PA X e t' := ⟨fun pos pins s σ H Q I q => h.run pos pins s σ H Q I (w σ H Q q)⟩
theorem _root_.L2.PT.weak {X : Cx} {e : Expr} {t t' : TT} (h : PT X e t) (w : ∀ σ H Q, t' σ H Q → t σ H Q) : PT X e t' := ⟨fun pins s σ H Q I q => h.run pins s σ H Q I (w σ H Q q)⟩
theorem _root_.L2.PW.weak {X : Cx} {e : Expr} {t t' : TT} (h : PW X e t) (w : ∀ σ H Q, t' σ H Q → t σ H Q) : PW X e t' := ⟨fun wh pins s σ H Q I q => h.run wh pins s σ H Q I (w σ H Q q)⟩
theorem _root_.L2.PS.weak {X : Cx} {e : Stmt} {t t' : TS} (h : PS X e t) (w : ∀ D' σ H, t' D' σ H → t D' σ H) : PS X e t' := ⟨fun pins s σ H D' I q => h.run pins s σ H D' I (w D' σ H q)⟩
theorem _root_.L2.PSs.weak {X : Cx} {e : List Stmt} {t t' : TS} (h : PSs X e t) (w : ∀ D' σ H, t' D' σ H → t D' σ H) : PSs X e t' := ⟨fun pins s σ H D' I q => h.run pins s σ H D' I (w D' σ H q)⟩
theorem _root_.L2.PG.weak {X : Cx} {e : Expr} {t t' : TG} (h : PG X e t) (w : ∀ v σ H Q, t' v σ H Q → t v σ H Q) : PG X e t' := ⟨fun pins s σ H v u Q I r q => h.run pins s σ H v u Q I r (w v σ H Q q)⟩

section
variable {K : PySem.W.Frag} {c : Ct} {S S' H H' : Hp} {σ : L2.St} {env : En}
theorem RelH.mono {h : Hd} {v : V} (r : RelH K S σ h v) (e : Same S S') : RelH K S' σ h v := by
  cases h with
  | val d => exact RelD.mono e r
  | slot i => exact r
theorem view {h : Hd} {v : V} {d : D} (E : Er K c S H σ env) (r : RelH K S σ h v) (e : deref env h = some d) : Vw K S H d v := by
  cases h with
  | val d' => cases e; exact .inl r
  | slot i =>
    have r' : σ[i]? = some (some v) := r
    have e' : (match env[i]? with
      | some (.sh d) => some d
      | some (.ow _ d) => some d
      | _ => none) = some d := e
    split at e'
    · rename_i d' q
      cases e'
      obtain ⟨v', a, b⟩ := E.sh i d q
      rw [r'] at a; cases a
      exact .inl b
    · rename_i f d' q
      cases e'
      obtain ⟨p, a, b, _⟩ := E.ow i f d q
      rw [r'] at a; cases a
      exact .inr ⟨p, rfl, b⟩
    · cases e'
theorem Vw.rel {d : D} {v : V} (h : Vw K S H d v) (hs : Same S H) : RelD K H d v := by
  rcases h with h | ⟨p, rfl, h⟩
  · exact h.mono hs
  · exact h.rel hs
theorem Vw.lst {ds : List D} {v : V} (h : Vw K S H (.lst ds) v) (hs : Same S H) : ∃ a vs, v = .ref a ∧ H a = some (.lst vs) ∧ RelDs K S ds vs := by
  rcases h with h | ⟨p, rfl, h⟩
  · cases h with
    | lst h r => exact ⟨_, _, rfl, hs _ _ h, r⟩
  · obtain ⟨vs, e, r⟩ := h
    exact ⟨p, vs, rfl, e, r⟩
theorem Vw.tup {ds : List D} {v : V} (h : Vw K S H (.tup ds) v) (hs : Same S H) : ∃ a vs, v = .ref a ∧ TpAt K H a vs ∧ RelDs K S ds vs := by
  rcases h with h | ⟨p, rfl, h⟩
  · cases h with
    | tup h r => exact ⟨_, _, rfl, h.same hs, r⟩
  · exact h.elim
theorem Vw.dic {ds : List (Key × D)} {v : V} (h : Vw K S H (.dic ds) v) (hs : Same S H) : ∃ a vs, v = .ref a ∧ H a = some (.dK vs) ∧ RelKs K S ds vs := by
  rcases h with h | ⟨p, rfl, h⟩
  · cases h with
    | dic h r => exact ⟨_, _, rfl, hs _ _ h, r⟩
  · obtain ⟨vs, e, r⟩ := h
    exact ⟨p, vs, rfl, e, r⟩
end

/-! ### names, constants -/
def mC (d : D) : M D := fun e => some (d, e)
/-- a slot's value; an own object is let go -/
def mVar (i : Nat) : M D := fun e => match e[i]? with
  | some (.sh d) => some (d, e)
  | some (.ow true d) => some (d, e.set i (.sh d))
  | _ => none
def mHs (i : Nat) : M Hd := fun e => match e[i]? with
  | some (.sh _) => some (.slot i, e)
  | some (.ow _ _) => some (.slot i, e)
  | _ => none
def mV (f : M D) : M Hd := fun e => match f e with
  | some (d, e1) => some (.val d, e1)
  | none => none
section
variable {X : Cx} {c : Ct}
theorem f_const {e : Expr} {v : V} {d : D} (h : PE X e (tC v)) (r : ∀ S, RelD X.K S d v) : FE X c e (mC d) := h.weak fun σ H Q ⟨S, env, d', env', E, e1, k⟩ => by
  cases e1
  exact k S H v E (Same.refl _) (r S)
theorem f_int {i j pos} : FE X c (.Constant (.int i) j pos) (mC (.int i)) := f_const pe_int fun _ => .int i
theorem f_bl {i j pos} : FE X c (.Constant (.bool i) j pos) (mC (.bl i)) := f_const pe_bl fun _ => .bl i
theorem f_non {j pos} : FE X c (.Constant .none j pos) (mC .non) := f_const pe_non fun _ => .non
theorem f_str {x j pos} : FE X c (.Constant (.str x) j pos) (mC (.str x)) := f_const pe_str fun _ => .str x
theorem f_var (i : Nat) {x : Str} {pos : Pos} (h : PE X (.Name x pos) (tVar i)) : FE X c (.Name x pos) (mVar i) := h.weak fun σ H Q ⟨S, env, d, env', E, e1, k⟩ => by
  unfold mVar at e1
  split at e1
  · rename_i d' q
    cases e1
    obtain ⟨v, a, r⟩ := E.sh i d q
    exact ⟨v, a, k S H v E (Same.refl _) r⟩
  · rename_i d' q
    cases e1
    obtain ⟨S', p, E', a, b, r⟩ := E.freeze q
    exact ⟨_, b, k S' H _ E' a r⟩
  · cases e1
theorem f_hvar (i : Nat) {x : Str} {pos : Pos} (h : PE X (.Name x pos) (tVar i)) : FH X c (.Name x pos) (mHs i) := h.weak fun σ H Q ⟨S, env, d, env', E, e1, k⟩ => by
  unfold mHs at e1
  split at e1
  · rename_i d' q
    cases e1
    obtain ⟨v, a, r⟩ := E.sh i d' q
    exact ⟨v, a, k S H v E (Same.refl _) a⟩
  · rename_i f d' q
    cases e1
    obtain ⟨p, a, _⟩ := E.ow i f d' q
    exact ⟨_, a, k S H _ E (Same.refl _) a⟩
  · cases e1
theorem f_val {e : Expr} {f : M D} (h : FE X c e f) : FH X c e (mV f) := h.weak fun σ H Q ⟨S, env, d, env', E, e1, k⟩ => by
  unfold mV at e1
  split at e1
  · rename_i d' e' q
    cases e1
    exact ⟨S, env, d', env', E, q, fun S' H' v E' a r => k S' H' v E' a r⟩
  · cases e1
end

/-! ### operators -/
/-- two values, then g -/
def m2 (g : D → D → Option D) (fa fb : M D) : M D := fun e => match fa e with
  | none => none
  | some (a, e1) => match fb e1 with
    | none => none
    | some (b, e2) => match g a b with
      | none => none
      | some z => some (z, e2)
def m2H (g : D → D → Option D) (fa fb : M Hd) : M D := fun e => match fa e with
  | none => none
  | some (a, e1) => match fb e1 with
    | none => none
    | some (b, e2) => match deref e2 a, deref e2 b with
      | some a', some b' => (match g a' b' with
        | none => none
        | some z => some (z, e2))
      | _, _ => none
def m1 (g : D → Option D) (fa : M D) : M D := fun e => match fa e with
  | none => none
  | some (a, e1) => match g a with
    | none => none
    | some z => some (z, e1)
def m1H (g : D → Option D) (fa : M Hd) : M D := fun e => match fa e with
  | none => none
  | some (a, e1) => match deref e1 a with
    | none => none
    | some a' => match g a' with
      | none => none
      | some z => some (z, e1)
/-- what an operation must do for g: two ways out, a value that needs no room, a new object -/
def Op2 (K : PySem.W.Frag) (r : R2) (g : D → D → Option D) : Prop := ∀ (S H : Hp) (d e z : D) (x y : V) (Q : VK), g d e = some z → Vw K S H d x → Vw K S H e y → Same S H →
  (∀ v, RelD K S z v → Q v H) → (∀ p o, H p = none → RelD K (upd S p o) z (.ref p) → Q (.ref p) (upd H p o)) → r x y H Q
def Op1 (K : PySem.W.Frag) (r : V → Hp → VK → Prop) (g : D → Option D) : Prop := ∀ (S H : Hp) (d z : D) (x : V) (Q : VK), g d = some z → Vw K S H d x → Same S H →
  (∀ v, RelD K S z v → Q v H) → (∀ p o, H p = none → RelD K (upd S p o) z (.ref p) → Q (.ref p) (upd H p o)) → r x H Q
section
variable {X : Cx} {c : Ct} {a b : Expr} {pos : Pos}
/-- the reading of two operands and an operation -/
theorem t2 {r : R2} {g : D → D → Option D} {fa fb : M D} (ho : Op2 X.K r g) (σ : L2.St) (H : Hp) (Q : VK) (h : tM X.K c (m2 g fa fb) σ H Q) : tOp r (tM X.K c fa) (tM X.K c fb) σ H Q := by
  obtain ⟨S, env, d, env', E, e1, k⟩ := h
  unfold m2 at e1
  split at e1
  · cases e1
  · rename_i da ea qa
    split at e1
    · cases e1
    · rename_i db eb qb
      split at e1
      · cases e1
      · rename_i z qz
        cases e1
        refine ⟨S, env, da, ea, E, qa, fun S1 H1 v1 E1 s1 r1 => ⟨S1, ea, db, _, E1, qb, fun S2 H2 v2 E2 s2 r2 => ?_⟩⟩
        exact ho S2 H2 da db _ v1 v2 Q qz (.inl (r1.mono s2)) (.inl r2) E2.sub (fun v r => k S2 H2 v E2 (s1.trans s2) r) fun p o hp r => k _ _ _ (E2.laid o hp) ((s1.trans s2).trans (same_upd (E2.sub.free hp))) r
theorem t2H {r : R2} {g : D → D → Option D} {fa fb : M Hd} (ho : Op2 X.K r g) (σ : L2.St) (H : Hp) (Q : VK) (h : tM X.K c (m2H g fa fb) σ H Q) : tOp r (tH X.K c fa) (tH X.K c fb) σ H Q := by
  obtain ⟨S, env, d, env', E, e1, k⟩ := h
  unfold m2H at e1
  split at e1
  · cases e1
  · rename_i da ea qa
    split at e1
    · cases e1
    · rename_i db eb qb
      split at e1
      · rename_i a' b' q1 q2
        split at e1
        · cases e1
        · rename_i z qz
          cases e1
          refine ⟨S, env, da, ea, E, qa, fun S1 H1 v1 E1 s1 r1 => ⟨S1, ea, db, _, E1, qb, fun S2 H2 v2 E2 s2 r2 => ?_⟩⟩
          exact ho S2 H2 a' b' _ v1 v2 Q qz (view E2 (r1.mono s2) q1) (view E2 r2 q2) E2.sub (fun v r => k S2 H2 v E2 (s1.trans s2) r) fun p o hp r => k _ _ _ (E2.laid o hp) ((s1.trans s2).trans (same_upd (E2.sub.free hp))) r
      · cases e1
theorem t1 {r : V → Hp → VK → Prop} {g : D → Option D} {fa : M D} (ho : Op1 X.K r g) (σ : L2.St) (H : Hp) (Q : VK) (h : tM X.K c (m1 g fa) σ H Q) : tUn r (tM X.K c fa) σ H Q := by
  obtain ⟨S, env, d, env', E, e1, k⟩ := h
  unfold m1 at e1
  split at e1
  · cases e1
  · rename_i da ea qa
    split at e1
    · cases e1
    · rename_i z qz
      cases e1
      refine ⟨S, env, da, _, E, qa, fun S1 H1 v1 E1 s1 r1 => ?_⟩
      exact ho S1 H1 da _ v1 Q qz (.inl r1) E1.sub (fun v r => k S1 H1 v E1 s1 r) fun p o hp r => k _ _ _ (E1.laid o hp) (s1.trans (same_upd (E1.sub.free hp))) r
theorem t1H {r : V → Hp → VK → Prop} {g : D → Option D} {fa : M Hd} (ho : Op1 X.K r g) (σ : L2.St) (H : Hp) (Q : VK) (h : tM X.K c (m1H g fa) σ H Q) : tUn r (tH X.K c fa) σ H Q := by
  obtain ⟨S, env, d, env', E, e1, k⟩ := h
  unfold m1H at e1
  split at e1
  · cases e1
  · rename_i da ea qa
    split at e1
    · cases e1
    · rename_i a' q1
      split at e1
      · cases e1
      · rename_i z qz
        cases e1
        refine ⟨S, env, da, _, E, qa, fun S1 H1 v1 E1 s1 r1 => ?_⟩
        exact ho S1 H1 a' _ v1 Q qz (view E1 r1 q1) E1.sub (fun v r => k S1 H1 v E1 s1 r) fun p o hp r => k _ _ _ (E1.laid o hp) (s1.trans (same_upd (E1.sub.free hp))) r
theorem f_bin {op : Operator} {r : R2} {g : D → D → Option D} {fa fb : M D} (ho : OpR X (binaryOp op) r) (hg : Op2 X.K r g) (ha : FE X c a fa) (hb : FE X c b fb) : FE X c (.BinOp a op b pos) (m2 g fa fb) :=
  (pe_op ho ha hb).weak (t2 hg)
theorem f_binH {op : Operator} {r : R2} {g : D → D → Option D} {fa fb : M Hd} (ho : OpR X (binaryOp op) r) (hg : Op2 X.K r g) (ha : FH X c a fa) (hb : FH X c b fb) : FE X c (.BinOp a op b pos) (m2H g fa fb) :=
  (pe_op ho ha hb).weak (t2H hg)
theorem f_un {op : UnaryOp} {r : V → Hp → VK → Prop} {g : D → Option D} {fa : M D} (ho : UnR X (unaryOp op) r) (hg : Op1 X.K r g) (ha : FE X c a fa) : FE X c (.UnaryOp op a pos) (m1 g fa) :=
  (pe_un ho ha).weak (t1 hg)
theorem f_ix {r : R2} {g : D → D → Option D} {fa fb : M Hd} (hr : IxR X r) (hg : Op2 X.K r g) (ha : FH X c a fa) (hb : FH X c b fb) (hs : PlainIx b) : FE X c (.Subscript a b pos) (m2H g fa fb) :=
  (pe_ix hr ha hb hs).weak (t2H hg)
/-- a comparison as a value -/
theorem f_cmp {op : CmpOp} {r : R2} {g : D → D → Option D} {fa fb : M Hd} (ho : OpR X (compareOp op) r) (hg : Op2 X.K r g) (ha : FH X c a fa) (hb : FH X c b fb) (hm : behindInMarks op b = false) : FE X c (.Compare a [op] [b] pos) (m2H g fa fb) :=
  (pe_cmpR ho ha hb hm).weak (t2H hg)
end
/-! the operations by ints -/
theorem bif_some {α : Type} {b : Bool} {x y : α} (h : (bif b then some x else none) = some y) : b = true ∧ x = y := by
  cases b with
  | true => exact ⟨rfl, Option.some.inj h⟩
  | false => cases h
def gI (C : Int → Int → Bool) (g : Int → Int → Int) : D → D → Option D
  | .int i, .int j => bif C i j then some (.int (g i j)) else none
  | _, _ => none
def gB (g : Int → Int → Bool) : D → D → Option D
  | .int i, .int j => some (.bl (g i j))
  | _, _ => none
section
variable {K : PySem.W.Frag}
theorem vw_int {S H : Hp} {i : Int} {x : V} (h : Vw K S H (.int i) x) : x = .int i := by
  rcases h with h | ⟨p, _, h⟩
  · cases h; rfl
  · exact h.elim
theorem o2_int0 (g : Int → Int → Int) : Op2 K (rI0 fun i j => .int (g i j)) (gI (fun _ _ => true) g) := by
  intro S H d e z x y Q q hd he hs kv ka
  unfold gI at q
  split at q
  · cases q
    exact ⟨_, _, vw_int hd, vw_int he, kv _ (.int _)⟩
  · cases q
theorem o2_int {C : Int → Int → Prop} (Cb : Int → Int → Bool) (hC : ∀ i j, Cb i j = true → C i j) (g : Int → Int → Int) : Op2 K (rI C fun i j => .int (g i j)) (gI Cb g) := by
  intro S H d e z x y Q q hd he hs kv ka
  unfold gI at q
  split at q
  · rename_i i j
    obtain ⟨hc, rfl⟩ := bif_some q
    exact ⟨_, _, vw_int hd, vw_int he, hC _ _ hc, kv _ (.int _)⟩
  · cases q
theorem o2_cmp (g : Int → Int → Bool) : Op2 K (rI0 fun i j => .bl (g i j)) (gB g) := by
  intro S H d e z x y Q q hd he hs kv ka
  unfold gB at q
  split at q
  · cases q
    exact ⟨_, _, vw_int hd, vw_int he, kv _ (.bl _)⟩
  · cases q
end
/-- whether p, never to be computed -/
noncomputable def chk (p : Prop) : Bool := @decide p (Classical.propDecidable p)
theorem chk_yes {p : Prop} (h : p) : chk p = true := @decide_eq_true p (Classical.propDecidable p) h
theorem chk_of {p : Prop} (h : chk p = true) : p := @of_decide_eq_true p (Classical.propDecidable p) h
noncomputable def cMul (i j : Int) : Bool := chk ((Builtin.Int.intBits i : Int) + (Builtin.Int.intBits j : Int) ≤ 134217728)
noncomputable def cPow (i j : Int) : Bool := chk (0 ≤ j ∧ (Builtin.Int.intBits i : Int) * j ≤ 2 ^ 27)
def cMod (_ j : Int) : Bool := decide (0 < j)
def cDiv (_ j : Int) : Bool := decide (0 < j) && decide (j < 1073741824)
section
variable {X : Cx} {c : Ct} {a b : Expr} {pos : Pos} {fa fb : M D}
theorem op_powX : OpR X (binaryOp .Pow) (rI (fun i j => 0 ≤ j ∧ (Builtin.Int.intBits i : Int) * j ≤ 2 ^ 27) fun i j => .int (i ^ j.toNat)) := opI fun _ _ _ _ _ _ _ hc q => pow_int hc.1 hc.2 q
abbrev mAdd := m2 (gI (fun _ _ => true) (· + ·))
abbrev mSub := m2 (gI (fun _ _ => true) (· - ·))
noncomputable abbrev mMul := m2 (gI cMul (· * ·))
abbrev mMod := m2 (gI cMod (· % ·))
abbrev mDiv := m2 (gI cDiv (· / ·))
noncomputable abbrev mPow := m2 (gI cPow fun i j => i ^ j.toNat)
theorem f_add (ha : FE X c a fa) (hb : FE X c b fb) : FE X c (.BinOp a .Add b pos) (mAdd fa fb) := f_bin op_add (o2_int0 _) ha hb
theorem f_sub (ha : FE X c a fa) (hb : FE X c b fb) : FE X c (.BinOp a .Sub b pos) (mSub fa fb) := f_bin op_sub (o2_int0 _) ha hb
theorem f_mul (ha : FE X c a fa) (hb : FE X c b fb) : FE X c (.BinOp a .Mult b pos) (mMul fa fb) := f_bin op_mulX (o2_int cMul (fun _ _ h => chk_of h) _) ha hb
theorem f_mod (ha : FE X c a fa) (hb : FE X c b fb) : FE X c (.BinOp a .Mod b pos) (mMod fa fb) := f_bin op_mod (o2_int cMod (fun _ _ h => of_decide_eq_true h) _) ha hb
theorem f_div (ha : FE X c a fa) (hb : FE X c b fb) : FE X c (.BinOp a .FloorDiv b pos) (mDiv fa fb) :=
  f_bin op_fdiv (o2_int cDiv (fun i j h => by unfold cDiv at h; rw [Bool.and_eq_true] at h; exact ⟨of_decide_eq_true h.1, of_decide_eq_true h.2⟩) _) ha hb
theorem f_pow (ha : FE X c a fa) (hb : FE X c b fb) : FE X c (.BinOp a .Pow b pos) (mPow fa fb) :=
  f_bin op_powX (o2_int cPow (fun i j h => chk_of h) _) ha hb
def gNeg : D → Option D
  | .int i => some (.int (-i))
  | _ => none
theorem o1_neg {K : PySem.W.Frag} : Op1 K (rU fun i => .int (-i)) gNeg := by
  intro S H d z x Q q hd hs kv ka
  unfold gNeg at q
  split at q
  · cases q
    exact ⟨_, vw_int hd, kv _ (.int _)⟩
  · cases q
theorem f_neg (ha : FE X c a fa) : FE X c (.UnaryOp .USub a pos) (m1 gNeg fa) := f_un un_neg o1_neg ha
end
section
variable {X : Cx} {c : Ct} {a b : Expr} {pos : Pos} {fa fb : M Hd}
abbrev mLt := m2H (gB fun i j => decide (i < j))
abbrev mLe := m2H (gB fun i j => decide (i ≤ j))
abbrev mGt := m2H (gB fun i j => decide (j < i))
abbrev mGe := m2H (gB fun i j => decide (j ≤ i))
theorem f_lt (ha : FH X c a fa) (hb : FH X c b fb) : FE X c (.Compare a [.Lt] [b] pos) (mLt fa fb) := f_cmp op_lt (o2_cmp _) ha hb (nobehind _ (by decide) (by decide))
theorem f_le (ha : FH X c a fa) (hb : FH X c b fb) : FE X c (.Compare a [.LtE] [b] pos) (mLe fa fb) := f_cmp op_le (o2_cmp _) ha hb (nobehind _ (by decide) (by decide))
theorem f_gt (ha : FH X c a fa) (hb : FH X c b fb) : FE X c (.Compare a [.Gt] [b] pos) (mGt fa fb) := f_cmp op_gt (o2_cmp _) ha hb (nobehind _ (by decide) (by decide))
theorem f_ge (ha : FH X c a fa) (hb : FH X c b fb) : FE X c (.Compare a [.GtE] [b] pos) (mGe fa fb) := f_cmp op_ge (o2_cmp _) ha hb (nobehind _ (by decide) (by decide))
end
end FL

set_option Elab.async false
set_option linter.all false
set_option maxRecDepth 100000
set_option maxHeartbeats 2000000
namespace FL
open PySem PySem.Spec PyProof.Rows L2

/-! ## Promises of defs where no repr is under way -/
/-- the table of modules stands at its place -/
def SysB (h : Heap) : Prop := ∃ o es n, h.get? sysModules = some o ∧ o.data = .dict es n
/-- nothing is being shown -/
structure Gd (A : Around) (base : Heap) : Prop where
  gu : A.guards = some []
  sys : SysB base
/-- as FnOk, but asked only where nothing is being shown -/
structure FnG (P : Program) (w : World) (K : PySem.W.Frag) (mg : Str → Option Value) (base : Heap) (CX : CXT) (k : Nat) (f : Addr) (fd : FuncData) (ps : List Str) (sp : Sp) : Prop where
  len : ∀ vs H Q E, sp vs H Q E → vs.length = ps.length
  run : ∀ (A : Around) (outer : List Env) (s : Shared) (H : Hp) (args : Args) (us : List Value) (vs : List V) (Q : VK) (E : XK), Gd A base → Room k A → Env0 P w K mg base A outer s H →
    BindsTo s fd args (ps.zip us) → Vals vs us → sp vs H Q E → codeAny (model P w) A (.call (.ref f) args) (CR CX outer P w H s Q E) s

theorem FnG.mono {P : Program} {w : World} {K : PySem.W.Frag} {mg : Str → Option Value} {base : Heap} {CX : CXT} {j k : Nat} {f : Addr} {fd : FuncData} {ps : List Str} {sp : Sp} (G : FnG P w K mg base CX j f fd ps sp) (h : j ≤ k) : FnG P w K mg base CX k f fd ps sp :=
  ⟨G.len, fun A outer s H args us vs Q E g r => G.run A outer s H args us vs Q E g (r.mono h)⟩

section
variable {X : Cx} {CX : CXT} {k : Nat} {f C : Addr} {fd : FuncData} {ps ks : List Str} {sp : Sp} {dvs : List V} {ds : List Value} {E : XK} {x m : Str} {p pos apos : Pos} {e o : Expr} {es : List Expr} {ta : TE} {t tk : TA}
/-- a callee's end, in the caller -/
theorem cr_in {pins : List (Addr × Obj)} {σ : L2.St} {H : Hp} {s s' : Shared} {Q : VK} {r : Result} (pass : Passes CX X E) (I : Inv X pins σ H s) (q : CR CX X.stack X.prog X.w H s Q E r s') :
    match r with
    | .ok (.ret u) => EP X pins σ Q u s'
    | .ok _ => False
    | .error z => X.xe z s' := by
  cases r with
  | error z => exact pass pins σ H s z s' I q
  | ok fl => cases fl <;> first | exact I.after q | exact q
theorem runG {pins : List (Addr × Obj)} {σ : L2.St} {H : Hp} {s : Shared} {Q : VK} {us : List Value} {vs : List V} (G : FnG X.prog X.w X.K X.mg X.base CX k f fd ps sp) (gu : Gd X.A X.base) (room : Room k X.A)
    (hb : Binds X.K fd ps ds) (hd : Vals dvs ds) (pass : Passes CX X E) (I : Inv X pins σ H s) (r : Vals vs us) (want : sp (vs ++ dvs) H Q E) :
    wpAny (model X.prog X.w) X.A (call (.ref f) us) (EP X pins σ Q) X.xe s := by
  have both : Vals (vs ++ dvs) (us ++ ds) := r.append hd
  have long : (us ++ ds).length = ps.length := both.length.symm.trans (G.len _ _ _ _ want)
  apply wpAny_call
  apply codeAny_mono (G.run X.A X.stack s H ⟨us, []⟩ _ _ Q E gu room I.env0 (hb s us I.kIn long) both want)
  intro r' s' q
  have z := cr_in pass I q
  cases r' with
  | error _ => exact z
  | ok fl => cases fl <;> first | exact z | exact False.elim z
/-- f(e, ..) -/
theorem callG (G : FnG X.prog X.w X.K X.mg X.base CX k f fd ps sp) (gu : Gd X.A X.base) (room : Room k X.A) (gl : Gl X x) (hm : X.mg x = some (.ref f)) (kp : PySem.W.keepIn X.K (.ref f) = true) (hb : Binds X.K fd ps ds) (hd : Vals dvs ds)
    (pass : Passes CX X E) (ha : PA X (e :: es) t) (n1 : (x == ("__debug__" : Str)) = false := by decide) (n2 : starEach (e :: es) X.env = (false, eval e X.env) :: starEach es X.env := by rfl) (n3 : (backTo pos (starEach es X.env)).any (·.1) = false := by rfl) :
    PE X (.Call (.Name x p) (e :: es) [] pos) (tCall sp dvs E t) := by
  constructor
  intro pins s σ H Q I want
  apply wpAny_Call_Name_kw
  apply ld_glob I gl hm _ n1
  apply PySem.W.callWith_K (h₀ := X.base) I.mod.kin kp _ n2 n3
  apply thn (ha.run pos pins s σ H _ I want)
  rintro us s1 ⟨vs, H1, J, rv, q⟩
  exact ⟨J.kIn, runG G gu room hb hd pass J rv q⟩
/-- f() -/
theorem callG0 (G : FnG X.prog X.w X.K X.mg X.base CX k f fd ps sp) (gu : Gd X.A X.base) (room : Room k X.A) (gl : Gl X x) (hm : X.mg x = some (.ref f)) (kp : PySem.W.keepIn X.K (.ref f) = true) (hb : Binds X.K fd ps ds) (hd : Vals dvs ds)
    (pass : Passes CX X E) (n1 : (x == ("__debug__" : Str)) = false := by decide) : PE X (.Call (.Name x p) [] [] pos) (tCall sp dvs E tNil) := by
  constructor
  intro pins s σ H Q I want
  apply wpAny_Call_Name_kw
  apply ld_glob I gl hm _ n1
  exact PySem.W.callWith_K0 I.kIn kp (runG (us := []) G gu room hb hd pass I .nil want)
/-- f(e, .., k = v, ..): gV puts the values in the parameters' order -/
theorem callGK {g : List Value → List Value → List Value} {gV : List V → List V → List V} {kws : List Keyword} (G : FnG X.prog X.w X.K X.mg X.base CX k f fd ps sp) (gu : Gd X.A X.base) (room : Room k X.A) (gl : Gl X x) (hm : X.mg x = some (.ref f))
    (kp : PySem.W.keepIn X.K (.ref f) = true) (kb : KBinds X.K fd ps ks g gV) (pass : Passes CX X E) (ha : PA X (e :: es) t) (hk : PK X kws tk) (n0 : (backToKw pos (keywordEach kws X.env)).all (·.1.isSome) = true := by rfl)
    (nk : (backToKw pos (keywordEach kws X.env)).filterMap (·.1) = ks := by rfl) (n1 : (x == ("__debug__" : Str)) = false := by decide) (n2 : starEach (e :: es) X.env = (false, eval e X.env) :: starEach es X.env := by rfl)
    (n3 : ((backTo pos (starEach (e :: es) X.env)).any (·.1) || (backToKw pos (keywordEach kws X.env)).any (·.1.isNone)) = false := by rfl) :
    PE X (.Call (.Name x p) (e :: es) kws pos) (tCallK sp gV E t tk) := by
  constructor
  intro pins s σ H Q I want
  apply wpAny_Call_Name_kw
  apply ld_glob I gl hm _ n1
  apply PySem.W.callWith_KW (h₀ := X.base) I.mod.kin kp n0 _ n3 n2
  apply thn (ha.run pos pins s σ H _ I want)
  rintro us s1 ⟨vs, H1, J, rv, q⟩
  apply thn (hk.run pos pins s1 σ H1 _ J q)
  rintro ws s2 ⟨zs, H2, J2, rz, q2⟩
  refine ⟨J2.kIn, ?_⟩
  rw [nk]
  have both : Vals (gV vs zs) (g us ws) := kb.rel rv rz
  have long : (g us ws).length = ps.length := both.length.symm.trans (G.len _ _ _ _ q2)
  apply wpAny_call
  apply codeAny_mono (G.run X.A X.stack s2 H2 ⟨us, ks.zip ws⟩ _ _ Q E gu room J2.env0 (kb.to s2 us ws J2.kIn long) both q2)
  intro r' s' q'
  have z := cr_in pass J2 q'
  cases r' with
  | error _ => exact z
  | ok fl => cases fl <;> first | exact z | exact False.elim z
/-- o.m(e, ..) -/
theorem methG {pl : Sem Bool} (he : PE X o ta) (c : Cls X.K C) (hm : Meth X.K C m f) (G : FnG X.prog X.w X.K X.mg X.base CX k f fd ps sp) (gu : Gd X.A X.base) (room : Room k X.A) (hb : Binds X.K fd ps ds) (hd : Vals dvs ds) (pass : Passes CX X E) (ha : PA X (e :: es) t)
    (n2 : starEach (e :: es) X.env = (false, eval e X.env) :: starEach es X.env := by rfl) (n3 : (backTo pos (starEach es X.env)).any (·.1) = false := by rfl)
    (n4 : eval (.Call (.Attribute o m apos) (e :: es) [] pos) X.env = (eval o X.env >>= fun ov => standAt apos.atName >>= fun _ => holding [ov] (getMethod ov m pl) >>= fun fm => callWith pos fm.1 fm.2 (backTo pos (starEach (e :: es) X.env)) (backToKw pos (keywordEach [] X.env))) := by rfl) :
    PE X (.Call (.Attribute o m apos) (e :: es) [] pos) (tMeth C m sp dvs E ta t) := by
  constructor
  intro pins s σ H Q I want
  apply PySem.W.methodCall_KW (pl := pl) _ n4
  apply thn (he.run pins s σ H _ I want)
  rintro u s1 ⟨y, H1, J, ry, a, dx, fs, rfl, ea, l, q⟩
  cases ry
  apply getmeth_ok J ea c hm l
  apply PySem.W.callWith_K (first := [.ref a]) (h₀ := X.base) I.mod.kin hm.kp _ n2 n3
  apply thn (ha.run pos pins s1 σ H1 _ J q)
  rintro us s2 ⟨vs, H2, J2, rv, q2⟩
  exact ⟨J2.kIn, runG (us := .ref a :: us) (vs := .ref a :: vs) G gu room hb hd pass J2 (.cons rfl rv) q2⟩
end

/-! ## A def of the text -/
/-- a def by its body, where nothing is being shown -/
theorem fnG {CX : CXT} {P : Program} {w : World} {K : PySem.W.Frag} {mg : Str → Option Value} {base : Heap} {k : Nat} {f : Addr} {name qual : Str} {params : Arguments} {body : List Stmt} {scope : Scope} {dvs : List V} {kws : List (Str × V)} {fd : FuncData}
    {N ps : List Str} {sp : Sp} (F : FunD K name qual params body scope dvs kws f fd) (S : FnScope N ps scope) (long : ∀ vs H Q E, sp vs H Q E → vs.length = ps.length)
    (walk : ∀ (cdv : Value) (A : Around) (outer : List Env) (s : Shared) (H : Hp) (vs : List V) (Q : VK) (E : XK), Gd (A.deeper (envOfC qual scope s.heap.objs.size f cdv)) base → Room k (A.deeper (envOfC qual scope s.heap.objs.size f cdv)) → sp vs H Q E →
      ∃ t, PSs (cxOf CX P w K mg base N qual scope f cdv A outer s H E) body t ∧ t { nx := fun _ H' => Q .non H', rt := Q } (start N vs) H) :
    FnG P w K mg base CX (k + 1) f fd ps sp := by
  obtain ⟨⟨oc, od, dV, kV, doc, pm, an, cdv, ct, osl, rfl, at_f, code, _, _⟩, _⟩ := F
  refine ⟨long, ?_⟩
  intro A outer s H args us vs Q E gu room e0 hb r want
  have n := long _ _ _ _ want
  have inK : K.In s.heap := e0.mod.kin.keeps fun b ob q => (e0.bs b ob q).1
  have kinds : ∀ y ∈ ps.zip us, scope.names.lookup y.1 = some .local ∨ (scope.names.lookup y.1 = some .cell ∧ ((cellsFrom (s.heap.objs.size + 1) scope.names []).lookup y.1).isSome = true) := by
    rintro ⟨nm, v⟩ hy
    cases S.par nm (List.of_mem_zip hy).1 with
    | inl q => exact .inl q
    | inr q => exact .inr ⟨q, PySem.W.cellsFrom_some _ _ _ (.inl q)⟩
  apply codeAny_call_function room.depth (inK _ _ at_f) rfl S.co S.gen rfl (PySem.W.codeRec_of inK code)
  apply hb
  apply wpAny_newFunctionEnv_cells S.kind kinds
  rintro env rfl s1 st
  have lim : s.heap.NoLimit := e0.mod.nolimit.keeps fun b ob q => (e0.bs b ob q).1
  refine ⟨lim.keeps st.toInCall.keep, codeAny_func ?_⟩
  obtain ⟨t, body_t, at_t⟩ := walk cdv A outer s H vs Q E ⟨gu.gu, gu.sys⟩ (room.deeper _) want
  have I := inv_start (CX := CX) (P := P) (w := w) (mg := mg) (base := base) (N := N) (E := E) S room.hd e0 n r st
  apply wpAny_mono (body_t.run [] s1 (start N vs) H _ I at_t) _ fun _ _ z => z
  intro fl s' hs
  cases fl with
  | ret u =>
    obtain ⟨v, _, H', J, rv, q⟩ := hs
    exact ⟨v, H', J.os, J.bare, J.base, J.hok, rv, q⟩
  | next =>
    obtain ⟨_, H', J, q⟩ := hs
    exact ⟨V.non, H', J.os, J.bare, J.base, J.hok, rfl, q⟩
  | brk => exact hs.elim fun _ z => z.elim fun _ z => z.2.elim
  | cont => exact hs.elim fun _ z => z.elim fun _ z => z.2.elim

/-! ## The law, called at the top -/
def scriptObj (vs : List Value) : Obj := { cls := .type "list", data := .seq vs.toArray }
/-- the heap in which the script alone is tracked -/
def scriptHp (a : Addr) (vs : List Value) (ns : List Int) : Hp := fun b => if b = a then some (.frz (scriptObj vs) (.lst (ns.map V.int))) else none
theorem lawG {P : Program} {w : World} {K : PySem.W.Frag} {mg mb : Str → Option Value} {k : Nat} {fa a : Addr} {fd : FuncData} {x : Str} {sp : Sp} {s : Shared} {vs : List Value} {ns : List Int}
    (inK : K.In s.heap) (nsM : s.heap.Ns mainGlobals mg) (nsB : s.heap.Ns builtinsNs mb) (bt : ∀ x : Str, x ≠ "__name__" → mb x = bootBuiltins x) (lim : s.heap.NoLimit) (gens : s.gens = #[])
    (at_a : s.heap.get? a = some (scriptObj vs)) (isI : IntsAre vs ns) (short : ns.length ≤ sizeLine) (sys : SysB s.heap) (room : Room k callerA)
    (F : ∀ base : Heap, K.In base → base.Ns mainGlobals mg → FnG P w K mg base CX0 k fa fd [x] sp) (binds : ∀ (s : Shared) (u : Value), BindsTo s fd ⟨[u], []⟩ [(x, u)])
    (want : ∀ H : Hp, SqL K H a (ns.map V.int) → sp [.ref a] H (fun v _ => v = .bl true) E0) :
    codeAny (model P w) callerA (.call (.ref fa) ⟨[.ref a], []⟩) (fun r s' => r = .ok (.ret (.bool true)) ∧ OldK s.heap s'.heap ∧ s'.os = s.os ∧ AllBare s'.gens) s := by
  have rv := vals_ints isI
  have key : ∀ H : Hp, (H = (fun _ => none) ∨ (H = scriptHp a vs ns ∧ K.lookup a = none)) → SqL K H a (ns.map V.int) →
      codeAny (model P w) callerA (.call (.ref fa) ⟨[.ref a], []⟩) (fun r s' => r = .ok (.ret (.bool true)) ∧ OldK s.heap s'.heap ∧ s'.os = s.os ∧ AllBare s'.gens) s := by
    intro H hH hS
    have only : ∀ b u, H b = some u → b = a ∧ u = .frz (scriptObj vs) (.lst (ns.map V.int)) ∧ K.lookup a = none := by
      intro b u q
      rcases hH with rfl | ⟨rfl, hk⟩
      · exact nomatch (show (none : Option HO) = some u from q)
      · unfold scriptHp at q
        by_cases hb : b = a
        · rw [if_pos hb] at q; exact ⟨hb, (Option.some.inj q).symm, hk⟩
        · rw [if_neg hb] at q; cases q
    have held : HOk P w H s.heap := by
      intro b u q
      obtain ⟨rfl, rfl, _⟩ := only b u q
      exact ⟨at_a, by rw [List.length_map]; exact short, vs, _, rv, at_a⟩
    have stays : ∀ b ob, s.heap.get? b = some ob → (b = a → H b = none) → (hidT s.heap H).get? b = some ob := by
      intro b ob e hn
      apply hidT_get e
      cases q : H b with
      | none => rfl
      | some u => rw [hn (only b u q).1] at q; exact q.symm
    have dicts : ∀ {b : Addr} {m' : Str → Option Value}, s.heap.Ns b m' → (hidT s.heap H).Ns b m' := by
      rintro b m' ⟨ob, es, ep, e, d, rest⟩
      refine ⟨ob, es, ep, stays b ob e fun hb => ?_, d, rest⟩
      subst hb
      rw [at_a] at e
      cases e
      exact absurd d (by unfold scriptObj; exact fun z => nomatch z)
    have inB : K.In (hidT s.heap H) := by
      intro b ob e
      apply stays b ob (inK b ob e)
      intro hb
      cases q : H b with
      | none => rfl
      | some u =>
        have z := (only b u q).2.2
        rw [hb, z] at e
        cases e
    have md : Mod K mg (hidT s.heap H) := by
      refine ⟨inB, dicts nsM, ⟨mb, dicts nsB, bt⟩, ?_⟩
      obtain ⟨mc, h1, h2⟩ := lim
      exact ⟨mc, dicts h1, h2⟩
    have e0 : Env0 P w K mg (hidT s.heap H) callerA [] s H := by
      refine ⟨rfl, md, fun b ob q => of_hidT q, Nat.le_of_eq (hidT_size _ _), trivial, ?_, held, .of_eq gens⟩
      intro b hb
      exact absurd hb (show b ∉ ([] : List Addr) by simp)
    have sysB : SysB (hidT s.heap H) := by
      obtain ⟨ob, es, ep, e, d⟩ := sys
      refine ⟨ob, es, ep, stays _ ob e fun hb => ?_, d⟩
      rw [hb, at_a] at e
      cases e
      exact absurd d (by unfold scriptObj; exact fun z => nomatch z)
    have G := F _ inB (dicts nsM)
    apply codeAny_mono (G.run callerA [] s H ⟨[.ref a], []⟩ [.ref a] [.ref a] _ _ ⟨rfl, sysB⟩ room e0 (binds s (.ref a)) (.cons rfl .nil) (want H hS))
    intro r s' hr
    cases r with
    | error e => exact hr.elim
    | ok fl =>
      cases fl with
      | next => exact hr.elim
      | brk => exact hr.elim
      | cont => exact hr.elim
      | ret u =>
        obtain ⟨v, H', hos, hbare, un, held', rel, rfl⟩ := hr
        cases rel
        refine ⟨rfl, ?_, hos, hbare⟩
        apply OldK.of_keep
        intro b ob e
        cases q : H b with
        | none => exact un.keep b ob e q (fun z => absurd z (show b ∉ ([] : List Addr) by simp)) (by simp)
        | some u =>
          obtain ⟨rfl, rfl, _⟩ := only b u q
          have later := held' b _ (un.frzs b _ _ q)
          rw [at_a] at e
          cases e
          exact later.1
  cases hk : K.lookup a with
  | none => exact key _ (.inr ⟨rfl, hk⟩) (.inl (.inr ⟨scriptObj vs, if_pos rfl⟩))
  | some ob =>
    have e := inK a ob hk
    rw [at_a] at e
    cases e
    exact key _ (.inl rfl) (.inr ⟨_, vs.toArray, _, hk, rfl, rfl, rfl, by rw [List.size_toArray, isI.length]; exact short, by simpa using rv⟩)
/-- the end of a law's proof, over a head by facts; the script's ints have at most 2^20 bits -/
theorem walkG {l : PySem.W.OpenLaw} {n k : Nat} {q : Program} {loose : List Str} {XP : (Str → Option Value) → Heap → Prop} {YP : World → Heap → Prop} {d : DefRec} {x : Str} (hn : l.most = some n) (hn2 : n ≤ sizeLine) (hdf : d.params.defaults = []) (room : Room k callerA)
    (hsys : ∀ w h, YP w h → SysB h)
    (F : ∀ (w : World) (mg : Str → Option Value) (fa : Addr) (h : Heap), YP w h → h.Ns mainGlobals mg → mg d.name = some (.ref fa) → ∃ (K : PySem.W.Frag) (fd : FuncData) (sp : Sp), K.In h ∧ (∀ (s : Shared) (u : Value), BindsTo s fd ⟨[u], []⟩ [(x, u)]) ∧
      (∀ (H : Hp) (a : Addr) (ns : List Int), ns.length ≤ n → (∀ z ∈ ns, Builtin.Int.intBits z ≤ 1048576) → SqL K H a (ns.map V.int) → sp [.ref a] H (fun v _ => v = .bl true) E0) ∧
      ∀ base : Heap, K.In base → base.Ns mainGlobals mg → FnG l.prog w K mg base CX0 k fa fd [x] sp) :
    PySem.W.WalkO q loose XP YP l.row.toRowW d [] (fun f vs => PySem.call f vs) := by
  apply Att.attach_callB hn hdf
  intro w s₀ s₁ mg mb fa o pm cd doc a vs ns G Y ho hd hcd hmg hobj hints hlen hbits hg
  obtain ⟨K, fd, sp, inK, hb, hsp, hF⟩ := F w mg fa _ Y G.T.g hmg
  exact lawG inK G.T.g G.T.b G.T.builtins G.T.nolimit hg hobj hints (Nat.le_trans hlen hn2) (hsys _ _ Y) room hF hb fun H hS => hsp H a ns hlen hbits hS
end FL

set_option Elab.async false
set_option linter.all false
set_option maxRecDepth 100000
set_option maxHeartbeats 2000000
namespace FL
open PySem PySem.Spec PyProof.Rows L2

/-! ## argument lists, displays -/
def mNil : M (List D) := fun e => some ([], e)
def mCons (fa : M D) (fr : M (List D)) : M (List D) := fun e => match fa e with
  | none => none
  | some (a, e1) => match fr e1 with
    | none => none
    | some (as, e2) => some (a :: as, e2)
/-- a list of values, made into one -/
def mMk (g : List D → Option D) (f : M (List D)) : M D := fun e => match f e with
  | none => none
  | some (as, e1) => match g as with
    | none => none
    | some z => some (z, e1)
def szOk (as : List D) : Bool := decide (as.length ≤ sizeLine)
def gTupD (as : List D) : Option D := if szOk as = true then some (.tup as) else none
def gLstD (as : List D) : Option D := if szOk as = true then some (.lst as) else none
/-- what a call of values must do for g -/
def OpN (K : PySem.W.Frag) (r : List V → Hp → VK → Prop) (g : List D → Option D) : Prop := ∀ (S H : Hp) (ds : List D) (z : D) (xs : List V) (Q : VK), g ds = some z → RelDs K S ds xs → Same S H →
  (∀ v, RelD K S z v → Q v H) → (∀ p o, H p = none → RelD K (upd S p o) z (.ref p) → Q (.ref p) (upd H p o)) → r xs H Q
section
variable {X : Cx} {c : Ct} {e a b : Expr} {es : List Expr} {pos : Pos}
theorem fa_nil : FA X c [] mNil := pa_nil.weak fun σ H Q ⟨S, env, d, env', E, e1, k⟩ => by
  cases e1
  exact k S H [] E (Same.refl _) .nil
theorem fa_cons {fe : M D} {fr : M (List D)} (he : FE X c e fe) (hr : FA X c es fr) (hs : starEach (e :: es) X.env = (false, eval e X.env) :: starEach es X.env := by rfl) : FA X c (e :: es) (mCons fe fr) :=
  (pa_cons he hr hs).weak fun σ H Q ⟨S, env, d, env', E, e1, k⟩ => by
    unfold mCons at e1
    split at e1
    · cases e1
    · rename_i da ea qa
      split at e1
      · cases e1
      · rename_i db eb qb
        cases e1
        exact ⟨S, env, da, ea, E, qa, fun S1 H1 v1 E1 s1 r1 => ⟨S1, ea, db, _, E1, qb, fun S2 H2 v2 E2 s2 r2 => k S2 H2 _ E2 (s1.trans s2) (.cons (r1.mono s2) r2)⟩⟩
theorem tN {r : List V → Hp → VK → Prop} {g : List D → Option D} {f : M (List D)} (ho : OpN X.K r g) (σ : L2.St) (H : Hp) (Q : VK) (h : tM X.K c (mMk g f) σ H Q) : tMs X.K c f σ H fun vs H1 => r vs H1 Q := by
  obtain ⟨S, env, d, env', E, e1, k⟩ := h
  unfold mMk at e1
  split at e1
  · cases e1
  · rename_i da ea qa
    split at e1
    · cases e1
    · rename_i z qz
      cases e1
      refine ⟨S, env, da, _, E, qa, fun S1 H1 vs E1 s1 r1 => ?_⟩
      exact ho S1 H1 da _ vs Q qz r1 E1.sub (fun v r => k S1 H1 v E1 s1 r) fun p o hp r => k _ _ _ (E1.laid o hp) (s1.trans (same_upd (E1.sub.free hp))) r
theorem on_tup {K : PySem.W.Frag} : OpN K (fun xs H1 Q => xs.length ≤ sizeLine ∧ ∀ p, H1 p = none → Q (.ref p) (upd H1 p (.tup xs))) gTupD := by
  intro S H ds z xs Q q r hs kv ka
  unfold gTupD at q
  split at q
  · rename_i h
    cases q
    refine ⟨by rw [← r.length]; exact of_decide_eq_true h, fun p hp => ka p _ hp ?_⟩
    exact .tup (.inl upd_same) (r.mono (same_upd (hs.free hp)))
  · cases q
theorem on_lst {K : PySem.W.Frag} : OpN K (fun xs H1 Q => xs.length ≤ sizeLine ∧ ∀ p, H1 p = none → Q (.ref p) (upd H1 p (.lst xs))) gLstD := by
  intro S H ds z xs Q q r hs kv ka
  unfold gLstD at q
  split at q
  · rename_i h
    cases q
    refine ⟨by rw [← r.length]; exact of_decide_eq_true h, fun p hp => ka p _ hp ?_⟩
    exact .lst upd_same (r.mono (same_upd (hs.free hp)))
  · cases q
abbrev mTup := mMk gTupD
abbrev mLst := mMk gLstD
theorem f_tup {x1} {f : M (List D)} (h : FA X c es f) : FE X c (.Tuple es x1 pos) (mTup f) := (pe_tup h).weak (tN on_tup)
theorem f_lst {f : M (List D)} (h : FA X c es f) : FE X c (.List es pos) (mLst f) := (pe_lst h).weak (tN on_lst)
end

/-! ## truth, and, or, not, tests -/
def gNot : D → Option D
  | .bl b => some (.bl (!b))
  | _ => none
/-- a value's bool, as a test -/
def mTb (f : M D) : M Bool := fun e => match f e with
  | some (.bl b, e1) => some (b, e1)
  | _ => none
def mTNot (f : M Bool) : M Bool := fun e => match f e with
  | some (b, e1) => some (!b, e1)
  | _ => none
def mTAnd (f g : M Bool) : M Bool := fun e => match f e with
  | some (b, e1) => bif b then g e1 else some (false, e1)
  | none => none
def mTOr (f g : M Bool) : M Bool := fun e => match f e with
  | some (b, e1) => bif b then some (true, e1) else g e1
  | none => none
/-- truth of a list, a tuple, a text, None, an int -/
def truD : D → Option Bool
  | .bl b => some b
  | .non => some false
  | .int i => some (i != 0)
  | .lst xs => some !xs.isEmpty
  | .tup xs => some !xs.isEmpty
  | .str x => if x.length ≤ sizeLine then some ((x.length : Int) != 0) else none
  | _ => none
def mTru (f : M Hd) : M Bool := fun e => match f e with
  | some (h, e1) => (match deref e1 h with
    | some d => (match truD d with
      | some b => some (b, e1)
      | none => none)
    | none => none)
  | none => none
def mAnd (f g : M D) : M D := fun e => match f e with
  | some (.bl b, e1) => bif b then g e1 else some (.bl false, e1)
  | _ => none
def mOr (f g : M D) : M D := fun e => match f e with
  | some (.bl b, e1) => bif b then some (.bl true, e1) else g e1
  | _ => none
def mIf (t : M Bool) (f g : M D) : M D := fun e => match t e with
  | some (b, e1) => bif b then f e1 else g e1
  | none => none
section
variable {X : Cx} {c : Ct} {e a b t : Expr} {es : List Expr} {pos : Pos}
theorem ft_b {f : M D} (h : FE X c e f) (he : ∀ whole, isTrue e X.env whole = (do let v ← whole; standAt e.pos; holding [v] (truthy v)) := by intro _; rfl) : FT X c e (mTb f) := (pt_val h he).weak fun σ H Q ⟨S, env, d, env', E, e1, k⟩ => by
  unfold mTb at e1
  split at e1
  · rename_i b' e' q
    cases e1
    refine ⟨S, env, _, _, E, q, fun S1 H1 v E1 s1 r1 => ?_⟩
    cases r1
    exact ⟨_, rfl, k S1 H1 E1 s1⟩
  · cases e1
theorem ft_c {f : M D} {op : CmpOp} {r : R2} {ta tb : TE} (ho : OpR X (compareOp op) r) (ha : PE X a ta) (hb : PE X b tb) (hm : behindInMarks op b = false) (w : ∀ σ H Q, tM X.K c f σ H Q → tOp r ta tb σ H Q) : FT X c (.Compare a [op] [b] pos) (mTb f) :=
  (pt_cmpR ho ha hb hm).weak fun σ H Q ⟨S, env, d, env', E, e1, k⟩ => by
    unfold mTb at e1
    split at e1
    · rename_i b' e' q
      cases e1
      refine w σ H _ ⟨S, env, _, _, E, q, fun S1 H1 v E1 s1 r1 => ?_⟩
      cases r1
      exact ⟨_, rfl, k S1 H1 E1 s1⟩
    · cases e1
/-- a comparison as a test -/
theorem ft_cmp {op : CmpOp} {r : R2} {g : D → D → Option D} {fa fb : M Hd} (ho : OpR X (compareOp op) r) (hg : Op2 X.K r g) (ha : FH X c a fa) (hb : FH X c b fb) (hm : behindInMarks op b = false) : FT X c (.Compare a [op] [b] pos) (mTb (m2H g fa fb)) :=
  ft_c ho ha hb hm (t2H hg)
theorem ft_not {f : M Bool} (h : FT X c e f) : FT X c (.UnaryOp .Not e pos) (mTNot f) := (pt_not h).weak fun σ H Q ⟨S, env, d, env', E, e1, k⟩ => by
  unfold mTNot at e1
  split at e1
  · rename_i b' e' q
    cases e1
    exact ⟨S, env, _, _, E, q, fun S1 H1 E1 s1 => k S1 H1 E1 s1⟩
  · cases e1
theorem truV_of {K : PySem.W.Frag} {S H : Hp} {d : D} {v : V} {k : Bool} (w : Vw K S H d v) (hs : Same S H) (h : truD d = some k) : TruV K v H k := by
  cases d with
  | non => rcases w with w | ⟨p, _, w⟩; (cases w; cases h; exact rfl); exact w.elim
  | bl b => rcases w with w | ⟨p, _, w⟩; (cases w; cases h; exact rfl); exact w.elim
  | int i => rcases w with w | ⟨p, _, w⟩; (cases w; cases h; exact rfl); exact w.elim
  | str x =>
    rcases w with w | ⟨p, _, w⟩
    · cases w
      have h' : (if x.length ≤ sizeLine then some ((x.length : Int) != 0) else none) = some k := h
      split at h'
      · rename_i hz
        cases h'
        exact ⟨hz, rfl⟩
      · cases h'
    · exact w.elim
  | lst xs =>
    obtain ⟨a, vs, rfl, hl, r⟩ := w.lst hs
    cases h
    refine .inl ⟨vs, .of hl, ?_⟩
    cases r <;> rfl
  | tup xs =>
    obtain ⟨a, vs, rfl, hl, r⟩ := w.tup hs
    cases h
    refine .inr (.inl ⟨vs, hl.sq, ?_⟩)
    cases r <;> rfl
  | dic xs => cases h
  | obj n xs => cases h
  | scr ns => cases h
  | kls n => cases h
theorem ft_tru {f : M Hd} (h : FH X c e f) (he : ∀ whole, isTrue e X.env whole = (do let v ← whole; standAt e.pos; holding [v] (truthy v)) := by intro _; rfl) : FT X c e (mTru f) := (pt_truth h he).weak fun σ H Q ⟨S, env, d, env', E, e1, k⟩ => by
  unfold mTru at e1
  split at e1
  · rename_i h' e' q
    split at e1
    · rename_i d' q2
      split at e1
      · rename_i b' q3
        cases e1
        exact ⟨S, env, _, _, E, q, fun S1 H1 v E1 s1 r1 => ⟨_, truV_of (view E1 r1 q2) E1.sub q3, k S1 H1 E1 s1⟩⟩
      · cases e1
    · cases e1
  · cases e1
theorem fw_and1 {f : M Bool} (h : FT X c a f) : PW X (.BoolOp .And [a] pos) (tMT X.K c f) := pw_and1 h
theorem fw_or1 {f : M Bool} (h : FT X c a f) : PW X (.BoolOp .Or [a] pos) (tMT X.K c f) := pw_or1 h
theorem fw_and {f g : M Bool} (h : FT X c a f) (h2 : PW X (.BoolOp .And (b :: es) pos) (tMT X.K c g)) : PW X (.BoolOp .And (a :: b :: es) pos) (tMT X.K c (mTAnd f g)) := (pw_and h h2).weak fun σ H Q ⟨S, env, d, env', E, e1, k⟩ => by
  unfold mTAnd at e1
  split at e1
  · rename_i b' e' q
    cases b' with
    | true => exact ⟨S, env, _, _, E, q, fun S1 H1 E1 s1 => iteT ⟨S1, _, _, _, E1, e1, fun S2 H2 E2 s2 => k S2 H2 E2 (s1.trans s2)⟩⟩
    | false =>
      cases e1
      exact ⟨S, env, _, _, E, q, fun S1 H1 E1 s1 => iteF (k S1 H1 E1 s1)⟩
  · cases e1
theorem fw_or {f g : M Bool} (h : FT X c a f) (h2 : PW X (.BoolOp .Or (b :: es) pos) (tMT X.K c g)) : PW X (.BoolOp .Or (a :: b :: es) pos) (tMT X.K c (mTOr f g)) := (pw_or h h2).weak fun σ H Q ⟨S, env, d, env', E, e1, k⟩ => by
  unfold mTOr at e1
  split at e1
  · rename_i b' e' q
    cases b' with
    | false => exact ⟨S, env, _, _, E, q, fun S1 H1 E1 s1 => iteF ⟨S1, _, _, _, E1, e1, fun S2 H2 E2 s2 => k S2 H2 E2 (s1.trans s2)⟩⟩
    | true =>
      cases e1
      exact ⟨S, env, _, _, E, q, fun S1 H1 E1 s1 => iteT (k S1 H1 E1 s1)⟩
  · cases e1
theorem f_not {f : M D} (h : FE X c e f) : FE X c (.UnaryOp .Not e pos) (m1 gNot f) := (pe_not h).weak fun σ H Q ⟨S, env, d, env', E, e1, k⟩ => by
  unfold m1 at e1
  split at e1
  · cases e1
  · rename_i da ea qa
    split at e1
    · cases e1
    · rename_i z qz
      cases e1
      unfold gNot at qz
      split at qz
      · cases qz
        refine ⟨S, env, _, _, E, qa, fun S1 H1 v E1 s1 r1 => ?_⟩
        cases r1
        exact ⟨_, rfl, k S1 H1 _ E1 s1 (.bl _)⟩
      · cases qz
theorem f_one {op} {f : M D} (h : FE X c a f) : FE X c (.BoolOp op [a] pos) f := pe_one h
theorem f_and {f g : M D} (h : FE X c a f) (h2 : FE X c (.BoolOp .And (b :: es) pos) g) : FE X c (.BoolOp .And (a :: b :: es) pos) (mAnd f g) := (pe_and h h2).weak fun σ H Q ⟨S, env, d, env', E, e1, k⟩ => by
  unfold mAnd at e1
  split at e1
  · rename_i b' e' q
    refine ⟨S, env, _, _, E, q, fun S1 H1 v E1 s1 r1 => ?_⟩
    cases r1
    cases b' with
    | true => exact ⟨_, rfl, iteT ⟨S1, _, _, _, E1, e1, fun S2 H2 v E2 s2 r2 => k S2 H2 v E2 (s1.trans s2) r2⟩⟩
    | false =>
      cases e1
      exact ⟨_, rfl, iteF (k S1 H1 _ E1 s1 (.bl _))⟩
  · cases e1
theorem f_or {f g : M D} (h : FE X c a f) (h2 : FE X c (.BoolOp .Or (b :: es) pos) g) : FE X c (.BoolOp .Or (a :: b :: es) pos) (mOr f g) := (pe_or h h2).weak fun σ H Q ⟨S, env, d, env', E, e1, k⟩ => by
  unfold mOr at e1
  split at e1
  · rename_i b' e' q
    refine ⟨S, env, _, _, E, q, fun S1 H1 v E1 s1 r1 => ?_⟩
    cases r1
    cases b' with
    | false => exact ⟨_, rfl, iteF ⟨S1, _, _, _, E1, e1, fun S2 H2 v E2 s2 r2 => k S2 H2 v E2 (s1.trans s2) r2⟩⟩
    | true =>
      cases e1
      exact ⟨_, rfl, iteT (k S1 H1 _ E1 s1 (.bl _))⟩
  · cases e1
theorem f_if {ft : M Bool} {f g : M D} (ht : FT X c t ft) (h : FE X c a f) (h2 : FE X c b g) : FE X c (.IfExp t a b pos) (mIf ft f g) := (pe_ifExp ht h h2).weak fun σ H Q ⟨S, env, d, env', E, e1, k⟩ => by
  unfold mIf at e1
  split at e1
  · rename_i b' e' q
    cases b' with
    | true => exact ⟨S, env, _, _, E, q, fun S1 H1 E1 s1 => iteT ⟨S1, _, _, _, E1, e1, fun S2 H2 v E2 s2 r2 => k S2 H2 v E2 (s1.trans s2) r2⟩⟩
    | false => exact ⟨S, env, _, _, E, q, fun S1 H1 E1 s1 => iteF ⟨S1, _, _, _, E1, e1, fun S2 H2 v E2 s2 r2 => k S2 H2 v E2 (s1.trans s2) r2⟩⟩
  · cases e1
end

/-! ## chains a < b < c -/
def mChain (g g' : D → D → Option D) (fa fb fc : M D) : M D := fun e => match fa e with
  | none => none
  | some (a, e1) => match fb e1 with
    | none => none
    | some (b, e2) => match g a b with
      | some (.bl k) => bif k then (match fc e2 with
        | none => none
        | some (c, e3) => match g' b c with
          | none => none
          | some z => some (z, e3)) else some (.bl false, e2)
      | _ => none
section
variable {X : Cx} {c : Ct} {e a b d : Expr} {pos : Pos}
theorem tCh {r r' : R2} {g g' : D → D → Option D} {fa fb fc : M D} (ho : Op2 X.K r g) (ho' : Op2 X.K r' g') (σ : L2.St) (H : Hp) (Q : VK) (h : tM X.K c (mChain g g' fa fb fc) σ H Q) : tChain r r' (tM X.K c fa) (tM X.K c fb) (tM X.K c fc) σ H Q := by
  obtain ⟨S, env, d, env', E, e1, k⟩ := h
  unfold mChain at e1
  split at e1
  · cases e1
  · rename_i da ea qa
    split at e1
    · cases e1
    · rename_i db eb qb
      refine ⟨S, env, da, ea, E, qa, fun S1 H1 v1 E1 s1 r1 => ⟨S1, ea, db, eb, E1, qb, fun S2 H2 v2 E2 s2 r2 => ?_⟩⟩
      split at e1
      · rename_i kk qz
        cases kk with
        | true =>
          have e1' : (match fc eb with
            | none => none
            | some (c, e3) => match g' db c with
              | none => none
              | some z => some (z, e3)) = some (d, env') := e1
          split at e1'
          · cases e1'
          · rename_i dc ec qc
            split at e1'
            · cases e1'
            · rename_i z qz'
              cases e1'
              refine ho S2 H2 da db _ v1 v2 _ qz (.inl (r1.mono s2)) (.inl r2) E2.sub (fun v r => ?_) fun p o hp r => ?_
              · cases r
                refine ⟨true, rfl, iteT ⟨S2, eb, dc, _, E2, qc, fun S3 H3 v3 E3 s3 r3 => ?_⟩⟩
                exact ho' S3 H3 db dc _ v2 v3 Q qz' (.inl (r2.mono s3)) (.inl r3) E3.sub (fun v r => k S3 H3 v E3 ((s1.trans s2).trans s3) r)
                  fun p o hp r => k _ _ _ (E3.laid o hp) (((s1.trans s2).trans s3).trans (same_upd (E3.sub.free hp))) r
              · cases r
        | false =>
          cases e1
          refine ho S2 H2 da db _ v1 v2 _ qz (.inl (r1.mono s2)) (.inl r2) E2.sub (fun v r => ?_) fun p o hp r => ?_
          · cases r
            exact ⟨false, rfl, iteF (k S2 H2 _ E2 (s1.trans s2) (.bl _))⟩
          · cases r
      · cases e1
theorem f_chain {op op' : CmpOp} {r r' : R2} {g g' : D → D → Option D} {fa fb fc : M D} (ho : OpR X (compareOp op) r) (ho' : OpR X (compareOp op') r') (hg : Op2 X.K r g) (hg' : Op2 X.K r' g') (ha : FE X c a fa) (hb : FE X c b fb) (hd : FE X c d fc)
    (hm : lastMarks [op, op'] [b, d] = false := by with_unfolding_all rfl) : FE X c (.Compare a [op, op'] [b, d] pos) (mChain g g' fa fb fc) := (pe_chain ho ho' ha hb hd hm).weak (tCh hg hg')
theorem ft_chain {op op' : CmpOp} {r r' : R2} {g g' : D → D → Option D} {fa fb fc : M D} (ho : OpR X (compareOp op) r) (ho' : OpR X (compareOp op') r') (hg : Op2 X.K r g) (hg' : Op2 X.K r' g') (ha : FE X c a fa) (hb : FE X c b fb) (hd : FE X c d fc)
    (hm : lastMarks [op, op'] [b, d] = false := by with_unfolding_all rfl) : FT X c (.Compare a [op, op'] [b, d] pos) (mTb (mChain g g' fa fb fc)) :=
  (pt_chain ho ho' ha hb hd hm).weak fun σ H Q ⟨S, env, d, env', E, e1, k⟩ => by
    unfold mTb at e1
    split at e1
    · rename_i b' e' q
      cases e1
      refine tCh hg hg' σ H _ ⟨S, env, _, _, E, q, fun S1 H1 v E1 s1 r1 => ?_⟩
      cases r1
      exact ⟨_, rfl, k S1 H1 E1 s1⟩
    · cases e1
end

/-! ## statements -/
def sSeq (f g : FS) : FS := fun e => match f e with
  | some (.nx e1) => g e1
  | r => r
def sNil : FS := fun e => some (.nx e)
def sIf (t : M Bool) (f g : FS) : FS := fun e => match t e with
  | some (b, e1) => bif b then f e1 else g e1
  | none => none
def sRet (f : M D) : FS := fun e => match f e with
  | some (d, e1) => some (.rt d e1)
  | none => none
def sDrop (f : M D) : FS := fun e => match f e with
  | some (_, e1) => some (.nx e1)
  | none => none
/-- a slot takes a shared value -/
def lentS : Sl → Bool
  | .ow false _ => true
  | _ => false
def gSet (i : Nat) : FG := fun d e => match e[i]? with
  | some s => if lentS s = true then none else some (e.set i (.sh d))
  | none => none
theorem lentS_no {s : Sl} (h : ¬ lentS s = true) {d : D} : s ≠ .ow false d := fun z => by subst z; exact h rfl
def gSets : List FG → List D → En → Option En
  | [], [], e => some e
  | g :: gs, d :: ds, e => match g d e with
    | some e1 => gSets gs ds e1
    | none => none
  | _, _, _ => none
def gUn (gs : List FG) : FG := fun d e => match d with
  | .tup ds => gSets gs ds e
  | _ => none
def sAsg (g : FG) (f : M D) : FS := fun e => match f e with
  | some (d, e1) => (match g d e1 with
    | some e2 => some (.nx e2)
    | none => none)
  | none => none
section
variable {X : Cx} {c : Ct} {e a b t tg : Expr} {es : List Expr} {pos pos' : Pos} {st : Stmt} {rest : List Stmt}
theorem fs_nil : FSs X c [] sNil := pss_nil.weak fun D' σ H ⟨S, env, o, E, e1, k⟩ => by
  cases e1
  exact k S H σ E (Same.refl _)
theorem oK.mono {K : PySem.W.Frag} {S S' : Hp} {D' : Ends} {o : Out} (h : oK K c S D' o) (s : Same S S') : oK K c S' D' o := by
  cases o with
  | nx e => exact fun S1 H1 σ1 E1 s1 => h S1 H1 σ1 E1 (s.trans s1)
  | rt d e => exact fun S1 H1 σ1 v E1 s1 r => h S1 H1 σ1 v E1 (s.trans s1) r
  | bk e => exact fun S1 H1 σ1 E1 s1 => h S1 H1 σ1 E1 (s.trans s1)
  | ct e => exact fun S1 H1 σ1 E1 s1 => h S1 H1 σ1 E1 (s.trans s1)
  | ro d e => exact fun S1 H1 σ1 p E1 s1 => h S1 H1 σ1 p E1 (s.trans s1)
theorem fs_cons {f g : FS} (h : FSt X c st f) (h2 : FSs X c rest g) : FSs X c (st :: rest) (sSeq f g) := (pss_cons h h2).weak fun D' σ H ⟨S, env, o, E, e1, k⟩ => by
  unfold sSeq at e1
  split at e1
  · rename_i e' q
    exact ⟨S, env, _, E, q, fun S1 H1 σ1 E1 s1 => ⟨S1, _, _, E1, e1, k.mono s1⟩⟩
  · rename_i hn
    refine ⟨S, env, o, E, e1, ?_⟩
    cases o with
    | nx e => exact absurd e1 (hn e)
    | rt d e => exact k
    | bk e => exact k
    | ct e => exact k
    | ro d e => exact k
theorem fs_one {f : FS} (h : FSt X c st f) : FSs X c [st] f := pss_one h
theorem fs_if {ft : M Bool} {f g : FS} {u v : List Stmt} (ht : FT X c t ft) (h : FSs X c u f) (h2 : FSs X c v g) : FSt X c (.If t u v pos) (sIf ft f g) := (ps_if ht h h2).weak fun D' σ H ⟨S, env, o, E, e1, k⟩ => by
  unfold sIf at e1
  split at e1
  · rename_i b' e' q
    cases b' with
    | true => exact ⟨S, env, _, _, E, q, fun S1 H1 E1 s1 => iteT ⟨S1, _, _, E1, e1, k.mono s1⟩⟩
    | false => exact ⟨S, env, _, _, E, q, fun S1 H1 E1 s1 => iteF ⟨S1, _, _, E1, e1, k.mono s1⟩⟩
  · cases e1
theorem fs_ret {f : M D} (h : FE X c e f) : FSt X c (.Return (some e) pos) (sRet f) := (ps_ret h).weak fun D' σ H ⟨S, env, o, E, e1, k⟩ => by
  unfold sRet at e1
  split at e1
  · rename_i d e' q
    cases e1
    exact ⟨S, env, _, _, E, q, fun S1 H1 v E1 s1 r1 => k S1 H1 σ v E1 s1 r1⟩
  · cases e1
theorem fs_retN : FSt X c (.Return none pos) (sRet (mC .non)) := ps_retN.weak fun D' σ H ⟨S, env, o, E, e1, k⟩ => by
  cases e1
  exact k S H σ _ E (Same.refl _) .non
theorem fs_pass : FSt X c (.Pass pos) sNil := ps_pass.weak fun D' σ H ⟨S, env, o, E, e1, k⟩ => by
  cases e1
  exact k S H σ E (Same.refl _)
theorem fs_break : FSt X c (.Break pos) (fun e => some (.bk e)) := ps_break.weak fun D' σ H ⟨S, env, o, E, e1, k⟩ => by
  cases e1
  exact k S H σ E (Same.refl _)
theorem fs_continue : FSt X c (.Continue pos) (fun e => some (.ct e)) := ps_continue.weak fun D' σ H ⟨S, env, o, E, e1, k⟩ => by
  cases e1
  exact k S H σ E (Same.refl _)
theorem fs_expr {f : M D} (h : FE X c e f) (hs : swapsWith e none pos.line X.env = pure false := by rfl) : FSt X c (.Expr e pos) (sDrop f) := (ps_expr h hs).weak fun D' σ H ⟨S, env, o, E, e1, k⟩ => by
  unfold sDrop at e1
  split at e1
  · rename_i d e' q
    cases e1
    exact ⟨S, env, _, _, E, q, fun S1 H1 v E1 s1 r1 => k S1 H1 σ E1 s1⟩
  · cases e1
theorem gSet_ok {K : PySem.W.Frag} {S H : Hp} {σ : L2.St} {env e' : En} {i : Nat} {d : D} {v : V} (E : Er K c S H σ env) (h : gSet i d env = some e') (r : RelD K S d v) : Er K c S H (σ.set i (some v)) e' := by
  unfold gSet at h
  split at h
  · rename_i s q
    split at h
    · cases h
    · rename_i hl
      cases h
      exact E.put (fun e z => by rw [q] at z; exact lentS_no hl (Option.some.inj z)) r
  · cases h
theorem fg_name {i : Nat} {x : Str} (h : PG X (.Name x pos) (gName i)) : FGt X c (.Name x pos) (gSet i) := h.weak fun v σ H Q ⟨S, env, d, e', E, r, h1, k⟩ =>
  k _ S H (gSet_ok E h1 r) (Same.refl _)
def tGs (K : PySem.W.Frag) (c : Ct) (gs : List FG) : TGs := fun vs σ H Q => ∃ S env ds e', Er K c S H σ env ∧ RelDs K S ds vs ∧ gSets gs ds env = some e' ∧ ∀ σ' S' H', Er K c S' H' σ' e' → Same S S' → Q σ' H'
theorem fgs_nil : PGs X [] (tGs X.K c []) := ⟨fun pins s σ H vs us Q I r ⟨S, env, ds, e', E, rs, h, k⟩ => by
  cases ds with
  | nil =>
    cases rs
    cases h
    exact pgs_nil.run pins s σ H [] us Q I r ⟨rfl, k σ S H E (Same.refl _)⟩
  | cons _ _ => cases h⟩
theorem fgs_cons {g : FG} {gs : List FG} (h1 : FGt X c e g) (h2 : PGs X es (tGs X.K c gs)) (hs : (assignEach (e :: es) X.env).map (·.2) = assign e X.env :: (assignEach es X.env).map (·.2) := by rfl) : PGs X (e :: es) (tGs X.K c (g :: gs)) :=
  ⟨fun pins s σ H vs us Q I r ⟨S, env, ds, e', E, rs, h, k⟩ => by
    cases ds with
    | nil => cases h
    | cons d ds =>
      cases rs with
      | cons r1 rs =>
        have h' : (match g d env with
          | some e1 => gSets gs ds e1
          | none => none) = some e' := h
        split at h'
        · rename_i e1 q
          refine (pgs_cons h1 h2 hs).run pins s σ H _ us Q I r ⟨_, _, rfl, S, env, d, e1, E, r1, q, fun σ1 S1 H1 E1 s1 => ?_⟩
          exact ⟨S1, e1, ds, e', E1, rs.mono s1, h', fun σ2 S2 H2 E2 s2 => k σ2 S2 H2 E2 (s1.trans s2)⟩
        · cases h'⟩
theorem gSets_len : ∀ {gs : List FG} {ds : List D} {env e' : En}, gSets gs ds env = some e' → ds.length = gs.length
  | [], [], _, _, _ => rfl
  | [], _ :: _, _, _, h => by cases h
  | _ :: _, [], _, _, h => by cases h
  | g :: gs, d :: ds, env, e', h => by
    have h' : (match g d env with
      | some e1 => gSets gs ds e1
      | none => none) = some e' := h
    split at h'
    · exact congrArg (· + 1) (gSets_len h')
    · cases h'
theorem fg_tup {gs : List FG} {k n : Nat} (hc : X.calm = true) (h : PGs X es (tGs X.K c gs)) (hl : gs.length = n) (hn : (assignEach es X.env).length = n := by rfl) (hst : (assignEach es X.env).findIdx? (·.1) = none := by rfl) : FGt X c (.Tuple es k pos) (gUn gs) :=
  (pg_tup hc h hn hst).weak fun v σ H Q ⟨S, env, d, e', E, r, h1, kk⟩ => by
    unfold gUn at h1
    split at h1
    · rename_i ds
      cases r with
      | tup ht rs =>
        refine ⟨_, _, rfl, sqT_same E.sub ht.sq, ?_, S, env, ds, e', E, rs, h1, kk⟩
        rw [← rs.length, ← hl]
        exact gSets_len h1
    · cases h1
theorem fs_asg {f : M D} {g : FG} (h : FE X c e f) (hg : FGt X c tg g) (hs : swapsWithSole [tg] e pos.line X.env = pure false := by rfl) (hw : swappedStores [tg] e X.env = pure none := by rfl) (h1 : (assignEach [tg] X.env).map (·.2) = [assign tg X.env] := by rfl) :
    FSt X c (.Assign [tg] e pos) (sAsg g f) := (ps_asg h hg hs hw h1).weak fun D' σ H ⟨S, env, o, E, e1, k⟩ => by
  unfold sAsg at e1
  split at e1
  · rename_i d e' q
    split at e1
    · rename_i e2 q2
      cases e1
      exact ⟨S, env, _, _, E, q, fun S1 H1 v E1 s1 r1 => ⟨S1, e', d, e2, E1, r1, q2, fun σ2 S2 H2 E2 s2 => k S2 H2 σ2 E2 (s1.trans s2)⟩⟩
    · cases e1
  · cases e1
end
end FL

set_option Elab.async false
set_option linter.all false
set_option maxRecDepth 100000
set_option maxHeartbeats 2000000
namespace FL
open PySem PySem.Spec PyProof.Rows L2

/-! ## a part of the work, seen from its own beginning -/
def lend (e : En) : En := e.map fun s => match s with
  | .ow _ d => .ow false d
  | s => s
def backS : Sl → Sl → Sl
  | .ow f _, .ow _ d => .ow f d
  | _, s => s
def back (e e2 : En) : En := List.zipWith backS e e2
def lentOf (σ : L2.St) (e : En) : Nat → Option Addr := fun i => match e[i]?, σ[i]? with
  | some (.ow _ _), some (some (.ref p)) => some p
  | _, _ => none
section
variable {K : PySem.W.Frag} {L : Nat → Option Addr} {S0 H0 S H S' H' : Hp} {σ : L2.St} {env e2 : En}
theorem lentOf_some {i : Nat} {p : Addr} (h : lentOf σ env i = some p) : ∃ f d, env[i]? = some (.ow f d) ∧ σ[i]? = some (some (.ref p)) := by
  unfold lentOf at h
  split at h
  · rename_i f d q a b c
    cases h
    exact ⟨_, _, b, c⟩
  · cases h
theorem lend_ow {i : Nat} {f : Bool} {d : D} (h : (lend env)[i]? = some (.ow f d)) : f = false ∧ ∃ g, env[i]? = some (.ow g d) := by
  unfold lend at h
  rw [List.getElem?_map] at h
  cases e : env[i]? with
  | none => rw [e] at h; cases h
  | some s =>
    rw [e] at h
    cases s with
    | un => cases h
    | sh d' => cases h
    | ow g d' => cases h; exact ⟨rfl, g, rfl⟩
theorem lend_sh {i : Nat} {d : D} (h : (lend env)[i]? = some (.sh d)) : env[i]? = some (.sh d) := by
  unfold lend at h
  rw [List.getElem?_map] at h
  cases e : env[i]? with
  | none => rw [e] at h; cases h
  | some s =>
    rw [e] at h
    cases s with
    | un => cases h
    | sh d' => cases h; rfl
    | ow g d' => cases h
theorem lend_of {i : Nat} {f : Bool} {d : D} (h : env[i]? = some (.ow f d)) : (lend env)[i]? = some (.ow false d) := by
  unfold lend
  rw [List.getElem?_map, h]
  rfl
theorem ER.rebase (h : ER K L S0 H0 S H σ env) : ER K (lentOf σ env) S H S H σ (lend env) := by
  refine ⟨h.sub, by unfold lend; rw [List.length_map]; exact h.len, fun i d q => h.sh i d (lend_sh q), fun i f d q => ?_, fun i j f g d e p hij q1 q2 q3 => ?_, Same.refl _, fun _ z => z, fun _ _ z _ => z, fun _ z => .inl z, fun i p q => ?_, fun i p q => ?_⟩
  · obtain ⟨rfl, g, q'⟩ := lend_ow q
    obtain ⟨p, a, b, c', _⟩ := h.ow i g d q'
    refine ⟨p, a, b, c', ?_⟩
    rw [if_neg (by decide)]
    unfold lentOf
    rw [q', a]
  · obtain ⟨rfl, g1, r1⟩ := lend_ow q1
    obtain ⟨rfl, g2, r2⟩ := lend_ow q2
    exact h.dis i j g1 g2 d e p hij r1 r2 q3
  · obtain ⟨f, d, a, b⟩ := lentOf_some q
    exact ⟨b, d, lend_of a⟩
  · obtain ⟨f, d, a, b⟩ := lentOf_some q
    obtain ⟨p', b', o, _⟩ := h.ow i f d a
    rw [b] at b'; cases b'
    exact o.there
theorem back_get {i : Nat} {s : Sl} (h : (back env e2)[i]? = some s) : ∃ a b, env[i]? = some a ∧ e2[i]? = some b ∧ s = backS a b := by
  unfold back at h
  rw [List.getElem?_zipWith] at h
  cases ea : env[i]? with
  | none => rw [ea] at h; cases h
  | some a =>
    cases eb : e2[i]? with
    | none => rw [ea, eb] at h; cases h
    | some b => rw [ea, eb] at h; cases h; exact ⟨a, b, rfl, rfl, rfl⟩
theorem backS_ow {a b : Sl} {f : Bool} {d : D} (h : backS a b = .ow f d) : ∃ g, b = .ow g d ∧ ((∃ d0, a = .ow f d0) ∨ ((∀ f0 d0, a ≠ .ow f0 d0) ∧ g = f)) := by
  cases a with
  | ow f0 d0 =>
    cases b with
    | ow g d' => cases h; exact ⟨g, rfl, .inl ⟨d0, rfl⟩⟩
    | un => cases h
    | sh d' => cases h
  | un => cases b <;> first | (cases h; done) | (cases h; exact ⟨_, rfl, .inr ⟨fun _ _ z => (by cases z), rfl⟩⟩)
  | sh x => cases b <;> first | (cases h; done) | (cases h; exact ⟨_, rfl, .inr ⟨fun _ _ z => (by cases z), rfl⟩⟩)
theorem backS_sh {a b : Sl} {d : D} (h : backS a b = .sh d) : b = .sh d := by
  cases a <;> cases b <;> first | (cases h; done) | (cases h; rfl)
theorem ER.unbase (E : ER K L S0 H0 S H σ env) (E2 : ER K (lentOf σ env) S H S' H' σ e2) : ER K L S0 H0 S' H' σ (back env e2) := by
  have h0 : ∀ b, H b = none → H0 b = none := fun b q => by
    cases e : H0 b with
    | none => rfl
    | some o => exact absurd q (E.dom b (by rw [e]; exact fun z => nomatch z))
  refine ⟨E2.sub, by unfold back; rw [List.length_zipWith, E.len, E2.len]; omega, fun i d q => ?_, fun i f d q => ?_, fun i j f g d e p hij q1 q2 q3 => ?_, E.s0.trans E2.s0, fun b q => E2.dom b (E.dom b q), fun b o q hl => ?_, fun b q => ?_, fun i p q => ?_, E.lsd⟩
  · obtain ⟨a, b, ha, hb, e⟩ := back_get q
    exact E2.sh i d (by rw [hb, backS_sh e.symm])
  · obtain ⟨a, b, ha, hb, e⟩ := back_get q
    obtain ⟨g, rfl, hc⟩ := backS_ow e.symm
    obtain ⟨p, x, y, z, w⟩ := E2.ow i g d hb
    refine ⟨p, x, y, z, ?_⟩
    rcases hc with ⟨d0, rfl⟩ | ⟨hn, rfl⟩
    · obtain ⟨p', x', _, _, w'⟩ := E.ow i f d0 ha
      rw [x] at x'; cases x'
      exact w'
    · cases g with
      | true => rw [if_pos rfl] at w ⊢; exact h0 p w
      | false =>
        rw [if_neg (by decide)] at w
        obtain ⟨f0, d0, r, _⟩ := lentOf_some w
        rw [ha] at r; cases r
        exact absurd rfl (hn f0 d0)
  · obtain ⟨a1, b1, ha1, hb1, e1⟩ := back_get q1
    obtain ⟨a2, b2, ha2, hb2, e2'⟩ := back_get q2
    obtain ⟨g1, rfl, _⟩ := backS_ow e1.symm
    obtain ⟨g2, rfl, _⟩ := backS_ow e2'.symm
    exact E2.dis i j g1 g2 d e p hij hb1 hb2 q3
  · refine E2.kep b o (E.kep b o q hl) fun i z => ?_
    obtain ⟨f, d, a, x⟩ := lentOf_some z
    obtain ⟨p', x', _, _, w⟩ := E.ow i f d a
    rw [x] at x'; cases x'
    cases f with
    | true => rw [if_pos rfl] at w; rw [w] at q; cases q
    | false => rw [if_neg (by decide)] at w; exact hl i w
  · rcases E2.frs b q with z | z
    · exact E.frs b z
    · exact .inr (h0 b z)
  · obtain ⟨x, d, a⟩ := E.lnt i p q
    refine ⟨x, ?_⟩
    have hl : lentOf σ env i = some p := by unfold lentOf; rw [a, x]
    obtain ⟨_, d', b⟩ := E2.lnt i p hl
    refine ⟨d', ?_⟩
    unfold back
    rw [List.getElem?_zipWith, a, b]
    rfl
/-- others have worked and kept all that stood -/
theorem ER.grow (E : ER K L S0 H0 S H σ env) (a : Same S S') (b : Same S' H') (d : ∀ x, H x ≠ none → H' x ≠ none) (k : Same H H') (f : ∀ x, S' x ≠ none → S x ≠ none ∨ H x = none) : ER K L S0 H0 S' H' σ env := by
  have h0 : ∀ b, H b = none → H0 b = none := fun b q => by
    cases e : H0 b with
    | none => rfl
    | some o => exact absurd q (E.dom b (by rw [e]; exact fun z => nomatch z))
  have out : ∀ p, H p ≠ none → S p = none → S' p = none := fun p h1 h2 => by
    cases e : S' p with
    | none => rfl
    | some o =>
      rcases f p (by rw [e]; exact fun z => nomatch z) with z | z
      · exact absurd h2 z
      · exact absurd z h1
  refine ⟨b, E.len, fun i d q => ?_, fun i g d q => ?_, E.dis, E.s0.trans a, fun x q => d x (E.dom x q), fun x o q hl => k x o (E.kep x o q hl), fun x q => ?_, E.lnt, E.lsd⟩
  · obtain ⟨v, x, r⟩ := E.sh i d q
    exact ⟨v, x, r.mono a⟩
  · obtain ⟨p, x, y, z, w⟩ := E.ow i g d q
    have same : H' p = H p := by
      cases e : H p with
      | none => exact absurd e y.there
      | some o => exact k p o e
    exact ⟨p, x, y.mono a same, out p y.there z, w⟩
  · rcases f x q with z | z
    · exact E.frs x z
    · exact .inr (h0 x z)
/-- .. all but the object of slot i, which they have changed -/
theorem ER.growL (E : ER K L S0 H0 S H σ env) {i : Nat} {fl : Bool} {d0 d' : D} {p0 : Addr} (hi : env[i]? = some (.ow fl d0)) (hp : σ[i]? = some (some (.ref p0))) (a : Same S S') (b : Same S' H') (d : ∀ x, H x ≠ none → H' x ≠ none) (k : ∀ x o, H x = some o → x ≠ p0 → H' x = some o)
    (f : ∀ x, S' x ≠ none → S x ≠ none ∨ H x = none) (r : OwnAt K S' H' d' p0) : ER K L S0 H0 S' H' σ (env.set i (.ow fl d')) := by
  obtain ⟨p1, x1, y1, z1, w1⟩ := E.ow i fl d0 hi
  rw [hp] at x1; cases x1
  -- first as if the object stood as it was
  cases e0 : H p0 with
  | none => exact absurd e0 y1.there
  | some ob =>
    have n0 : S' p0 = none := by
      cases e : S' p0 with
      | none => rfl
      | some o =>
        rcases f p0 (by rw [e]; exact fun z => nomatch z) with z | z
        · exact absurd z1 z
        · exact absurd z y1.there
    have E1 : ER K L S0 H0 S' (upd H' p0 ob) σ env := E.grow a (fun x o q => by
        rw [upd_ne (fun z => by subst z; rw [n0] at q; cases q)]; exact b x o q) (fun x q => by
        by_cases hx : x = p0
        · subst hx; rw [upd_same]; exact fun z => nomatch z
        · rw [upd_ne hx]; exact d x q) (fun x o q => by
        by_cases hx : x = p0
        · subst hx; rw [upd_same]; rw [e0] at q; exact q
        · rw [upd_ne hx]; exact k x o q hx) f
    exact E1.chg hi hp (fun x hx => (upd_ne hx).symm) r
end
end FL

set_option Elab.async false
set_option linter.all false
set_option maxRecDepth 100000
set_option maxHeartbeats 2000000
namespace FL
open PySem PySem.Spec PyProof.Rows L2

/-! ## defs as functions of their arguments -/
/-- the arguments (shared, or lent), to the result and what is lent -/
abbrev Fn := En → Option (D × En)
def spF (K : PySem.W.Frag) (φ : Fn) : Sp := fun vs H Q _ => ∃ (L : Nat → Option Addr) (S : Hp) (env : En) (d : D) (env' : En), ER K L S H S H (vs.map some) env ∧ φ env = some (d, env') ∧
  ∀ S' H' v, ER K L S H S' H' (vs.map some) env' → Same S S' → RelD K S' d v → Q v H'
/-- .. the result a new object that nobody holds -/
def spO (K : PySem.W.Frag) (φ : Fn) : Sp := fun vs H Q _ => ∃ (L : Nat → Option Addr) (S : Hp) (env : En) (d : D) (env' : En), ER K L S H S H (vs.map some) env ∧ φ env = some (d, env') ∧
  ∀ S' H' p, ER K L S H S' H' (vs.map some) env' → Same S S' → OwnAt K S' H' d p → S' p = none → H p = none → Q (.ref p) H'
def cutS : Sl → Sl
  | .ow false d => .ow false d
  | _ => .un
def cut (m : Nat) (e : En) : En := (e.take m).map cutS
/-- a def of m parameters and n names -/
def endF (m : Nat) (d : D) (e : En) : Option (D × En) := if m ≤ e.length then some (d, cut m e) else none
def mkFn (n m : Nat) (fb : FS) : Fn := fun env => if env.length = m then (match fb (env ++ List.replicate (n - m) .un) with
  | some (.rt d e) => endF m d e
  | some (.nx e) => endF m .non e
  | _ => none) else none
def mkFnO (n m : Nat) (fb : FS) : Fn := fun env => if env.length = m then (match fb (env ++ List.replicate (n - m) .un) with
  | some (.ro d e) => endF m d e
  | _ => none) else none
theorem endF_some {m : Nat} {d d' : D} {e e' : En} (h : endF m d e = some (d', e')) : m ≤ e.length ∧ d' = d ∧ e' = cut m e := by
  unfold endF at h
  split at h
  · cases h; exact ⟨by assumption, rfl, rfl⟩
  · cases h
section
variable {K : PySem.W.Frag} {L : Nat → Option Addr} {S0 H0 S H S' H' : Hp} {σ : L2.St} {env e2 : En}
theorem ER.start {vs : List V} {N : List Str} (E : ER K L S H S H (vs.map some) env) : ER K L S H S H (start N vs) (env ++ List.replicate (N.length - env.length) .un) := by
  have len : env.length = vs.length := by have := E.len; rwa [List.length_map] at this
  have low : ∀ i x, (vs.map some)[i]? = some x → (L2.start N vs)[i]? = some x := fun i x q => by
    unfold L2.start
    rw [List.getElem?_append_left (List.getElem?_eq_some_iff.mp q).1]; exact q
  have slot : ∀ (i : Nat) (s : Sl), (env ++ List.replicate (N.length - env.length) Sl.un)[i]? = some s → env[i]? = some s ∨ s = .un := fun i s q => by
    by_cases hi : i < env.length
    · rw [List.getElem?_append_left hi] at q; exact .inl q
    · rw [List.getElem?_append_right (by omega), List.getElem?_replicate] at q
      split at q <;> cases q
      exact .inr rfl
  refine ⟨E.sub, by unfold L2.start; simp [len], fun i d q => ?_, fun i f d q => ?_, fun i j f g d e p hij q1 q2 q3 => ?_, E.s0, E.dom, E.kep, E.frs, fun i p q => ?_, E.lsd⟩
  · rcases slot i _ q with q | q
    · obtain ⟨v, a, r⟩ := E.sh i d q
      exact ⟨v, low i _ a, r⟩
    · cases q
  · rcases slot i _ q with q | q
    · obtain ⟨p, a, r⟩ := E.ow i f d q
      exact ⟨p, low i _ a, r⟩
    · cases q
  · rcases slot i _ q1 with q1 | q1
    · rcases slot j _ q2 with q2 | q2
      · obtain ⟨p1, a1, _⟩ := E.ow i f d q1
        obtain ⟨p2, a2, _⟩ := E.ow j g e q2
        have b1 := low i _ a1
        rw [b1] at q3; cases q3
        rw [low j _ a2]
        intro z; cases z
        exact E.dis i j f g d e _ hij q1 q2 a1 a2
      · cases q2
    · cases q1
  · obtain ⟨a, d, b⟩ := E.lnt i p q
    refine ⟨low i _ a, d, ?_⟩
    rw [List.getElem?_append_left (List.getElem?_eq_some_iff.mp b).1]; exact b
/-- at a def's end: what was lent is handed back -/
theorem ER.finish {vs : List V} {env0 : En} (E0 : ER K L S0 H0 S0 H0 (vs.map some) env0) (E : ER K L S0 H0 S' H' σ env) (hl : env0.length ≤ env.length) : ER K L S0 H0 S' H' (vs.map some) (cut env0.length env) := by
  have len : env0.length = vs.length := by have := E0.len; rwa [List.length_map] at this
  have own : ∀ (i : Nat) (f : Bool) (d : D), (cut env0.length env)[i]? = some (.ow f d) → f = false ∧ env[i]? = some (.ow false d) := fun i f d q => by
    unfold cut at q
    rw [List.getElem?_map] at q
    cases e : (env.take env0.length)[i]? with
    | none => rw [e] at q; cases q
    | some s =>
      rw [e] at q
      have e' : env[i]? = some s := by
        rw [List.getElem?_take] at e
        split at e
        · exact e
        · cases e
      cases s with
      | un => cases q
      | sh _ => cases q
      | ow g d' =>
        cases g with
        | true => cases q
        | false => cases q; exact ⟨rfl, e'⟩
  have lenT : ∀ i p, L i = some p → (vs.map some)[i]? = some (some (.ref p)) := fun i p q => (E0.lnt i p q).1
  refine ⟨E.sub, by unfold cut; simp [len]; omega, fun i d q => ?_, fun i f d q => ?_, fun i j f g d e p hij q1 q2 q3 => ?_, E.s0, E.dom, E.kep, E.frs, fun i p q => ?_, E.lsd⟩
  · unfold cut at q
    rw [List.getElem?_map] at q
    cases e : (env.take env0.length)[i]? with
    | none => rw [e] at q; cases q
    | some s =>
      rw [e] at q
      cases s with
      | un => cases q
      | sh _ => cases q
      | ow g d' => cases g <;> cases q
  · obtain ⟨rfl, q'⟩ := own i f d q
    obtain ⟨p, a, b, z, w⟩ := E.ow i false d q'
    rw [if_neg (by decide)] at w
    exact ⟨p, lenT i p w, b, z, by rw [if_neg (by decide)]; exact w⟩
  · obtain ⟨rfl, r1⟩ := own i f d q1
    obtain ⟨rfl, r2⟩ := own j g e q2
    obtain ⟨p1, a1, _, _, w1⟩ := E.ow i false d r1
    obtain ⟨p2, a2, _, _, w2⟩ := E.ow j false e r2
    rw [if_neg (by decide)] at w1 w2
    rw [lenT i p1 w1] at q3; cases q3
    rw [lenT j p2 w2]
    intro z; cases z
    exact E.dis i j false false d e _ hij r1 r2 a1 a2
  · obtain ⟨a, d, b⟩ := E.lnt i p q
    refine ⟨lenT i p q, d, ?_⟩
    unfold cut
    rw [List.getElem?_map, List.getElem?_take, if_pos, b]
    · rfl
    · obtain ⟨_, d0, b0⟩ := E0.lnt i p q
      exact (List.getElem?_eq_some_iff.mp b0).1
end
section
variable {P : Program} {w : World} {K : PySem.W.Frag} {mg : Str → Option Value} {base : Heap} {k : Nat} {f : Addr} {name qual : Str} {params : Arguments} {body : List Stmt} {scope : Scope} {dvs : List V} {kws : List (Str × V)} {fd : FuncData} {N ps : List Str}
theorem spF_len {n m : Nat} {fb : FS} (vs : List V) (H : Hp) (Q : VK) (E : XK) (h : spF K (mkFn n m fb) vs H Q E) : vs.length = m := by
  obtain ⟨L, S, env, d, env', E1, q, _⟩ := h
  unfold mkFn at q
  split at q
  · rename_i hl
    have := E1.len
    rw [List.length_map] at this
    omega
  · cases q
theorem spO_len {n m : Nat} {fb : FS} (vs : List V) (H : Hp) (Q : VK) (E : XK) (h : spO K (mkFnO n m fb) vs H Q E) : vs.length = m := by
  obtain ⟨L, S, env, d, env', E1, q, _⟩ := h
  unfold mkFnO at q
  split at q
  · rename_i hl
    have := E1.len
    rw [List.length_map] at this
    omega
  · cases q
/-- a def of the text by its body, as a function -/
theorem def_ok {fb : FS} (F : FunD K name qual params body scope dvs kws f fd) (Sc : FnScope N ps scope)
    (walk : ∀ (cdv : Value) (A : Around) (outer : List Env) (s : Shared) (H : Hp) (E : XK) (c : Ct), Gd (A.deeper (envOfC qual scope s.heap.objs.size f cdv)) base → Room k (A.deeper (envOfC qual scope s.heap.objs.size f cdv)) →
      FSs (cxOf CX0 P w K mg base N qual scope f cdv A outer s H E).nox c body fb) :
    FnG P w K mg base CX0 (k + 1) f fd ps (spF K (mkFn N.length ps.length fb)) := by
  refine fnG F Sc (fun vs H Q E h => spF_len vs H Q E h) fun cdv A outer s H vs Q E gu room h => ?_
  obtain ⟨L, S, env, d, env', E1, q, kk⟩ := h
  refine ⟨_, PSs.nox (walk cdv A outer s H E ⟨L, S, H⟩ gu room), ?_⟩
  unfold mkFn at q
  split at q
  · rename_i hl
    rw [← hl] at q
    split at q
    · rename_i d' e q2
      obtain ⟨hz, rfl, rfl⟩ := endF_some q
      exact ⟨S, _, _, E1.start, q2, fun S' H' σ' v E' s' r' => kk S' H' v (ER.finish E1 E' hz) s' r'⟩
    · rename_i e q2
      obtain ⟨hz, rfl, rfl⟩ := endF_some q
      exact ⟨S, _, _, E1.start, q2, fun S' H' σ' E' s' => kk S' H' .non (ER.finish E1 E' hz) s' .non⟩
    · cases q
  · cases q
theorem def_okO {fb : FS} (F : FunD K name qual params body scope dvs kws f fd) (Sc : FnScope N ps scope)
    (walk : ∀ (cdv : Value) (A : Around) (outer : List Env) (s : Shared) (H : Hp) (E : XK) (c : Ct), Gd (A.deeper (envOfC qual scope s.heap.objs.size f cdv)) base → Room k (A.deeper (envOfC qual scope s.heap.objs.size f cdv)) →
      FSs (cxOf CX0 P w K mg base N qual scope f cdv A outer s H E).nox c body fb) :
    FnG P w K mg base CX0 (k + 1) f fd ps (spO K (mkFnO N.length ps.length fb)) := by
  refine fnG F Sc (fun vs H Q E h => spO_len vs H Q E h) fun cdv A outer s H vs Q E gu room h => ?_
  obtain ⟨L, S, env, d, env', E1, q, kk⟩ := h
  refine ⟨_, PSs.nox (walk cdv A outer s H E ⟨L, S, H⟩ gu room), ?_⟩
  unfold mkFnO at q
  split at q
  · rename_i hl
    rw [← hl] at q
    split at q
    · rename_i d' e q2
      obtain ⟨hz, rfl, rfl⟩ := endF_some q
      exact ⟨S, _, _, E1.start, q2, fun S' H' σ' p E' s' o' a' b' => kk S' H' p (ER.finish E1 E' hz) s' o' a' b'⟩
    · cases q
  · cases q
end

/-! ## calls of such defs -/
def mCall (φ : Fn) (fa : M (List D)) : M D := fun e => match fa e with
  | some (ds, e1) => (match φ (ds.map .sh) with
    | some (r, _) => some (r, e1)
    | none => none)
  | none => none
/-- the object of slot j is lent, as the first argument -/
def mCallO (φ : Fn) (j : Nat) (fa : M (List D)) : M D := fun e => match e[j]? with
  | some (.ow _ _) => (match fa e with
    | some (ds, e1) => (match e1[j]? with
      | some (.ow f d) => (match φ (.ow false d :: ds.map .sh) with
        | some (r, .ow false d' :: _) => some (r, e1.set j (.ow f d'))
        | _ => none)
      | _ => none)
    | none => none)
  | _ => none
section
variable {K : PySem.W.Frag} {c : Ct} {S H S' H' : Hp} {σ : L2.St} {env : En}
theorem relDs_get {ds : List D} {vs : List V} {i : Nat} {d : D} (r : RelDs K S ds vs) (q : (ds.map Sl.sh)[i]? = some (.sh d)) : ∃ v, (vs.map some)[i]? = some (some v) ∧ RelD K S d v := by
  rw [List.getElem?_map] at q
  cases e : ds[i]? with
  | none => rw [e] at q; cases q
  | some d' =>
    rw [e] at q; cases q
    obtain ⟨v, a, b⟩ := r.get e
    exact ⟨v, by rw [List.getElem?_map, a]; rfl, b⟩
theorem map_sh {ds : List D} {i : Nat} {f : Bool} {d : D} (q : (ds.map Sl.sh)[i]? = some (.ow f d)) : False := by
  rw [List.getElem?_map] at q
  cases e : ds[i]? with
  | none => rw [e] at q; cases q
  | some d' => rw [e] at q; cases q
/-- the callee's start: all arguments shared -/
theorem ER.args {ds : List D} {vs : List V} (hs : Same S H) (r : RelDs K S ds vs) : ER K (fun _ => none) S H S H (vs.map some) (ds.map .sh) :=
  ⟨hs, by rw [List.length_map, List.length_map, r.length], fun i d q => relDs_get r q, fun i f d q => (map_sh q).elim, fun i j f g d e p _ q _ _ => (map_sh q).elim, Same.refl _, fun _ z => z, fun _ _ z _ => z, fun _ z => .inl z, fun _ _ z => (by cases z), fun _ _ z => (by cases z)⟩
def lent0 (p : Addr) : Nat → Option Addr := fun i => if i = 0 then some p else none
/-- .. the first one lent -/
theorem ER.args0 {ds : List D} {vs : List V} {d : D} {p : Addr} (hs : Same S H) (r : RelDs K S ds vs) (o : OwnAt K S H d p) (hp : S p = none) : ER K (lent0 p) S H S H ((V.ref p :: vs).map some) (.ow false d :: ds.map .sh) := by
  have z : ∀ (i : Nat) (s : Sl), (Sl.ow false d :: ds.map Sl.sh)[i]? = some s → (i = 0 ∧ s = .ow false d) ∨ ∃ j, i = j + 1 ∧ (ds.map Sl.sh)[j]? = some s := fun i s q => by
    cases i with
    | zero => cases q; exact .inl ⟨rfl, rfl⟩
    | succ j => exact .inr ⟨j, rfl, by simpa using q⟩
  refine ⟨hs, by simp [r.length], fun i e q => ?_, fun i f e q => ?_, fun i j f g e e' p' hij q1 q2 _ => ?_, Same.refl _, fun _ z => z, fun _ _ z _ => z, fun _ z => .inl z, fun i p' q => ?_, fun i p' q => ?_⟩
  · rcases z i _ q with ⟨_, e1⟩ | ⟨j, rfl, q'⟩
    · cases e1
    · obtain ⟨v, a, b⟩ := relDs_get r q'
      exact ⟨v, by simpa using a, b⟩
  · rcases z i _ q with ⟨rfl, e1⟩ | ⟨j, rfl, q'⟩
    · cases e1
      exact ⟨p, rfl, o, hp, by rw [if_neg (by decide)]; rfl⟩
    · exact (map_sh q').elim
  · rcases z i _ q1 with ⟨rfl, _⟩ | ⟨_, _, q'⟩
    · rcases z j _ q2 with ⟨rfl, _⟩ | ⟨_, _, q'⟩
      · exact absurd rfl hij
      · exact (map_sh q').elim
    · exact (map_sh q').elim
  · unfold lent0 at q
    split at q
    · rename_i h0
      subst h0; cases q
      exact ⟨rfl, d, rfl⟩
    · cases q
  · unfold lent0 at q
    split at q
    · cases q; exact o.there
    · cases q
end
section
variable {X : Cx} {c : Ct} {k : Nat} {f : Addr} {fd : FuncData} {ps : List Str} {φ : Fn} {x : Str} {p pos : Pos} {e : Expr} {es : List Expr} {fa : M (List D)} {j : Nat}
theorem t_call (σ : L2.St) (H : Hp) (Q : VK) (h : tM X.K c (mCall φ fa) σ H Q) : tCall (spF X.K φ) [] E0 (tMs X.K c fa) σ H Q := by
  obtain ⟨S, env, d, env', E, e1, kk⟩ := h
  unfold mCall at e1
  split at e1
  · rename_i ds e2 q
    split at e1
    · rename_i r e3 q2
      cases e1
      refine ⟨S, env, ds, _, E, q, fun S1 H1 vs E1 s1 r1 => ?_⟩
      show spF X.K φ (vs ++ []) H1 Q E0
      rw [List.append_nil]
      refine ⟨_, S1, _, _, _, ER.args E1.sub r1, q2, fun S2 H2 v E2 s2 r2 => ?_⟩
      exact kk S2 H2 v (E1.grow E2.s0 E2.sub E2.dom (fun b o z => E2.kep b o z fun _ z => nomatch z) E2.frs) (s1.trans s2) r2
    · cases e1
  · cases e1
theorem t_callO (σ : L2.St) (H : Hp) (Q : VK) (h : tM X.K c (mCallO φ j fa) σ H Q) : tCall (spF X.K φ) [] E0 (tCons (tVar j) (tMs X.K c fa)) σ H Q := by
  obtain ⟨S, env, d, env', E, e1, kk⟩ := h
  unfold mCallO at e1
  split at e1
  · rename_i f0 d0 q0
    split at e1
    · rename_i ds e2 q
      split at e1
      · rename_i f1 d1 q1
        split at e1
        · rename_i r d' rest q2
          cases e1
          obtain ⟨p0, a0, _⟩ := E.ow j f0 d0 q0
          refine ⟨_, a0, S, env, ds, _, E, q, fun S1 H1 vs E1 s1 r1 => ?_⟩
          obtain ⟨p1, a1, o1, z1, w1⟩ := E1.ow j f1 d1 q1
          rw [a0] at a1; cases a1
          rw [List.append_nil]
          refine ⟨_, S1, _, _, _, ER.args0 E1.sub r1 o1 z1, q2, fun S2 H2 v E2 s2 r2 => ?_⟩
          obtain ⟨p2, a2, o2, _, _⟩ := E2.ow 0 false d' rfl
          cases a2
          refine kk S2 H2 v (E1.growL q1 a0 E2.s0 E2.sub E2.dom (fun b o z hb => E2.kep b o z fun i hi => ?_) E2.frs o2) (s1.trans s2) r2
          unfold lent0 at hi
          split at hi
          · cases hi; exact hb rfl
          · cases hi
        · cases e1
      · cases e1
    · cases e1
  · cases e1
/-- f(e, ..), all shared -/
theorem f_call (G : FnG X.prog X.w X.K X.mg X.base CX0 k f fd ps (spF X.K φ)) (gu : Gd X.A X.base) (room : Room k X.A) (gl : Gl X x) (hm : X.mg x = some (.ref f)) (kp : PySem.W.keepIn X.K (.ref f) = true) (hb : Binds X.K fd ps []) (ha : FA X c (e :: es) fa)
    (n1 : (x == ("__debug__" : Str)) = false := by decide) (n2 : starEach (e :: es) X.env = (false, eval e X.env) :: starEach es X.env := by rfl) (n3 : (backTo pos (starEach es X.env)).any (·.1) = false := by rfl) : FE X c (.Call (.Name x p) (e :: es) [] pos) (mCall φ fa) :=
  (callG G gu room gl hm kp hb .nil pass0 ha n1 n2 n3).weak t_call
theorem f_call0 (G : FnG X.prog X.w X.K X.mg X.base CX0 k f fd ps (spF X.K φ)) (gu : Gd X.A X.base) (room : Room k X.A) (gl : Gl X x) (hm : X.mg x = some (.ref f)) (kp : PySem.W.keepIn X.K (.ref f) = true) (hb : Binds X.K fd ps [])
    (n1 : (x == ("__debug__" : Str)) = false := by decide) : FE X c (.Call (.Name x p) [] [] pos) (mCall φ mNil) :=
  (callG0 G gu room gl hm kp hb .nil pass0 n1).weak fun σ H Q h => by
    obtain ⟨S, env, ds, env', E, q, kk⟩ := t_call σ H Q h
    cases q
    exact kk S H [] E (Same.refl _) .nil
/-- f(own, e, ..) -/
theorem f_callO {x0 : Str} {p0 : Pos} (G : FnG X.prog X.w X.K X.mg X.base CX0 k f fd ps (spF X.K φ)) (gu : Gd X.A X.base) (room : Room k X.A) (gl : Gl X x) (hm : X.mg x = some (.ref f)) (kp : PySem.W.keepIn X.K (.ref f) = true) (hb : Binds X.K fd ps []) (hv : PE X (.Name x0 p0) (tVar j)) (ha : FA X c es fa)
    (n1 : (x == ("__debug__" : Str)) = false := by decide) (n2 : starEach (.Name x0 p0 :: es) X.env = (false, eval (.Name x0 p0) X.env) :: starEach es X.env := by rfl) (n3 : (backTo pos (starEach es X.env)).any (·.1) = false := by rfl) : FE X c (.Call (.Name x p) (.Name x0 p0 :: es) [] pos) (mCallO φ j fa) :=
  (callG G gu room gl hm kp hb .nil pass0 (pa_cons hv ha n2) n1 n2 n3).weak t_callO
/-- .. whose result is a new object -/
theorem fo_call (G : FnG X.prog X.w X.K X.mg X.base CX0 k f fd ps (spO X.K φ)) (gu : Gd X.A X.base) (room : Room k X.A) (gl : Gl X x) (hm : X.mg x = some (.ref f)) (kp : PySem.W.keepIn X.K (.ref f) = true) (hb : Binds X.K fd ps []) (ha : FA X c (e :: es) fa)
    (n1 : (x == ("__debug__" : Str)) = false := by decide) (n2 : starEach (e :: es) X.env = (false, eval e X.env) :: starEach es X.env := by rfl) (n3 : (backTo pos (starEach es X.env)).any (·.1) = false := by rfl) : FO X c (.Call (.Name x p) (e :: es) [] pos) (mCall φ fa) :=
  (callG G gu room gl hm kp hb .nil pass0 ha n1 n2 n3).weak fun σ H Q ⟨S, env, d, env', E, e1, kk⟩ => by
    unfold mCall at e1
    split at e1
    · rename_i ds e2 q
      split at e1
      · rename_i r e3 q2
        cases e1
        refine ⟨S, env, ds, _, E, q, fun S1 H1 vs E1 s1 r1 => ?_⟩
        show spO X.K φ (vs ++ []) H1 Q E0
        rw [List.append_nil]
        refine ⟨_, S1, _, _, _, ER.args E1.sub r1, q2, fun S2 H2 v E2 s2 o2 z2 n2 => ?_⟩
        refine kk S2 H2 v (E1.grow E2.s0 E2.sub E2.dom (fun b o z => E2.kep b o z fun _ z => nomatch z) E2.frs) (s1.trans s2) o2 z2 ?_ fun j f e q z => ?_
        · cases ez : c.H0 v with
          | none => rfl
          | some o => exact absurd n2 (E1.dom v (by rw [ez]; exact fun z => nomatch z))
        · obtain ⟨p1, a1, o1, _⟩ := E1.ow j f e q
          rw [a1] at z; cases z
          exact o1.there n2
      · cases e1
    · cases e1
end

/-! ## objects of one's own -/
/-- a new object is given to slot i -/
def sOwn (i : Nat) (f : M D) : FS := fun e => match f e with
  | some (d, e1) => (match e1[i]? with
    | some s => if lentS s = true then none else some (.nx (e1.set i (.ow true d)))
    | none => none)
  | none => none
def sRetO (f : M D) : FS := fun e => match f e with
  | some (d, e1) => some (.ro d e1)
  | none => none
/-- return of an own object -/
def sRetV (i : Nat) : FS := fun e => match e[i]? with
  | some (.ow true d) => some (.ro d (e.set i .un))
  | _ => none
section
variable {X : Cx} {c : Ct} {e : Expr} {es : List Expr} {pos pos' : Pos}
theorem fo_lst {f : M (List D)} (h : FA X c es f) : FO X c (.List es pos) (mMk gLstD f) := (pe_lst h).weak fun σ H Q ⟨S, env, d, env', E, e1, kk⟩ => by
  unfold mMk at e1
  split at e1
  · cases e1
  · rename_i da ea qa
    split at e1
    · cases e1
    · rename_i z qz
      cases e1
      unfold gLstD at qz
      split at qz
      · rename_i hz
        cases qz
        refine ⟨S, env, da, _, E, qa, fun S1 H1 vs E1 s1 r1 => ⟨by rw [← r1.length]; exact of_decide_eq_true hz, fun p hp => ?_⟩⟩
        refine kk S1 _ p (E1.lay _ hp) s1 ⟨vs, upd_same, r1⟩ (E1.sub.free hp) ?_ fun j f e q z => ?_
        · cases ez : c.H0 p with
          | none => rfl
          | some o => exact absurd hp (E1.dom p (by rw [ez]; exact fun z => nomatch z))
        · obtain ⟨p1, a1, o1, _⟩ := E1.ow j f e q
          rw [a1] at z; cases z
          exact o1.there hp
      · cases qz
theorem fs_own {i : Nat} {x : Str} {f : M D} (h : FO X c e f) (hN : X.N.Nodup) (hi : X.N[i]? = some x) (hx : Loc X.env.scope x) (hs : swapsWith e (some (.Name x pos')) pos.line X.env = pure false := by rfl) (hf : X.fn x = true ∨ X.env.scope.names.lookup x = some .local := by first | exact .inl rfl | exact .inr rfl | assumption) :
    FSt X c (.Assign [.Name x pos'] e pos) (sOwn i f) := (ps_set hN hi hx h hs hf).weak fun D' σ H ⟨S, env, o, E, e1, kk⟩ => by
  unfold sOwn at e1
  split at e1
  · rename_i d e2 q
    split at e1
    · rename_i s qs
      split at e1
      · cases e1
      · rename_i hl
        cases e1
        refine ⟨S, env, d, e2, E, q, fun S1 H1 p E1 s1 o1 z1 n1 fr => ?_⟩
        exact kk S1 H1 _ (E1.putOwn (fun e z => by rw [qs] at z; exact lentS_no hl (Option.some.inj z)) o1 z1 n1 fun j f e _ q => fr j f e q) s1
    · cases e1
  · cases e1
theorem fs_retO {f : M D} (h : FO X c e f) : FSt X c (.Return (some e) pos) (sRetO f) := (ps_ret h).weak fun D' σ H ⟨S, env, o, E, e1, kk⟩ => by
  unfold sRetO at e1
  split at e1
  · rename_i d e2 q
    cases e1
    exact ⟨S, env, d, e2, E, q, fun S1 H1 p E1 s1 o1 z1 n1 _ => kk S1 H1 σ p E1 s1 o1 z1 n1⟩
  · cases e1
/-- a slot is forgotten -/
theorem ER.drop {K : PySem.W.Frag} {L : Nat → Option Addr} {S0 H0 S H : Hp} {σ : L2.St} {env : En} {i : Nat} {d : D} (E : ER K L S0 H0 S H σ env) (h : env[i]? = some (.ow true d)) : ER K L S0 H0 S H σ (env.set i .un) := by
  have hl : i < env.length := (List.getElem?_eq_some_iff.mp h).1
  have old : ∀ (j : Nat) (s : Sl), (env.set i Sl.un)[j]? = some s → s = .un ∨ (j ≠ i ∧ env[j]? = some s) := fun j s q => by
    by_cases hj : j = i
    · subst hj; rw [List.getElem?_set_self hl] at q; cases q; exact .inl rfl
    · rw [List.getElem?_set_ne (Ne.symm hj)] at q; exact .inr ⟨hj, q⟩
  refine ⟨E.sub, by simp [E.len], fun j e q => ?_, fun j f e q => ?_, fun j k f g e e' p hjk q1 q2 q3 => ?_, E.s0, E.dom, E.kep, E.frs, fun j p q => ?_, E.lsd⟩
  · rcases old j _ q with q | ⟨_, q⟩
    · cases q
    · exact E.sh j e q
  · rcases old j _ q with q | ⟨_, q⟩
    · cases q
    · exact E.ow j f e q
  · rcases old j _ q1 with q1 | ⟨_, q1⟩
    · cases q1
    · rcases old k _ q2 with q2 | ⟨_, q2⟩
      · cases q2
      · exact E.dis j k f g e e' p hjk q1 q2 q3
  · obtain ⟨a, e, b⟩ := E.lnt j p q
    have hj : j ≠ i := fun z => by subst z; rw [h] at b; cases b
    exact ⟨a, e, by rw [List.getElem?_set_ne (Ne.symm hj)]; exact b⟩
theorem fs_retV {i : Nat} {x : Str} {p : Pos} (h : PE X (.Name x p) (tVar i)) : FSt X c (.Return (some (.Name x p)) pos) (sRetV i) := (ps_ret h).weak fun D' σ H ⟨S, env, o, E, e1, kk⟩ => by
  unfold sRetV at e1
  split at e1
  · rename_i d q
    cases e1
    obtain ⟨p, a, ow, z, w⟩ := E.ow i true d q
    rw [if_pos rfl] at w
    exact ⟨_, a, kk S H σ p (E.drop q) (Same.refl _) ow z w⟩
  · cases e1
end
end FL

set_option Elab.async false
set_option linter.all false
set_option maxRecDepth 100000
set_option maxHeartbeats 2000000
namespace FL
open PySem PySem.Spec PyProof.Rows L2

/-! ## data as the library has it -/
mutual
def toP : D → Option PyData
  | .non => some .none
  | .bl b => some (.bool b)
  | .int i => some (.int i)
  | .str x => some (.str x)
  | .lst xs => match toPs xs with
    | some ps => some (.list ps)
    | none => none
  | .tup xs => match toPs xs with
    | some ps => some (.tuple ps)
    | none => none
  | .dic [] => some (.dict [])
  | .dic (_ :: _) => none
  | .obj _ _ => none
  | .scr _ => none
  | .kls _ => none
def toPs : List D → Option (List PyData)
  | [] => some []
  | x :: xs => match toP x with
    | some p => (match toPs xs with
      | some ps => some (p :: ps)
      | none => none)
    | none => none
end
section
variable {X : Cx} {pins : List (Addr × Obj)} {σ : L2.St} {H : Hp} {s : Shared}
mutual
theorem reads_of (hb : SysB X.base) (I : Inv X pins σ H s) : ∀ (d : D) (p : PyData) (v : V) (u : Value), toP d = some p → RelD X.K H d v → RelV v u → ∃ as, Reads s.heap u p as ∧ sysModules ∉ as
  | .non, p, _, _, e, .non, r => by
    have e' : some PyData.none = some p := e
    cases e'; cases r
    exact ⟨_, Reads.none, by simp⟩
  | .bl b, p, _, _, e, .bl _, r => by
    have e' : some (PyData.bool b) = some p := e
    cases e'; cases r
    exact ⟨_, Reads.bool b, by simp⟩
  | .int i, p, _, _, e, .int _, r => by
    have e' : some (PyData.int i) = some p := e
    cases e'; obtain ⟨t, rfl⟩ := r
    exact ⟨_, Reads.int i t, by simp⟩
  | .str x, p, _, _, e, .str _, r => by
    have e' : some (PyData.str x) = some p := e
    cases e'; obtain ⟨t, rfl⟩ := r
    exact ⟨_, Reads.str x t, by simp⟩
  | .lst xs, p, _, _, e, .lst h rs, r => by
    unfold toP at e
    split at e
    · rename_i ps q
      cases e; cases r
      obtain ⟨its, rv, ⟨o, n, ho, hc, _, hd⟩, _⟩ := I.list (.of h)
      obtain ⟨as, hr, hn⟩ := reads_all hb I xs ps _ its q rs rv
      exact ⟨_, Reads.list ho hc hd hr, fun z => by
        rcases List.mem_cons.mp z with z | z
        · obtain ⟨o2, es, ep, e2, d2⟩ := hb
          have e3 := I.bk _ _ e2
          rw [z, ho] at e3
          cases e3
          rw [hd] at d2
          cases d2
        · exact hn z⟩
    · cases e
  | .tup xs, p, _, _, e, .tup h rs, r => by
    unfold toP at e
    split at e
    · rename_i ps q
      cases e; cases r
      obtain ⟨its, rv, ⟨o, ho, hc, n, hd⟩, _⟩ := I.tuple h.sq
      obtain ⟨as, hr, hn⟩ := reads_all hb I xs ps _ its q rs rv
      exact ⟨_, Reads.tuple ho hc hd hr, hn⟩
    · cases e
  | .dic [], p, _, _, e, .dic h rs, r => by
    unfold toP at e
    cases e; cases r
    cases rs
    obtain ⟨_, hsys, vs, kv, o, es, ep, h1, h2, h3, h4, h5, h6⟩ := dk_of I.hok h
    cases kv
    have he : es.toList = [] := by
      generalize es.toList = l at h5
      cases h5; rfl
    refine ⟨_, Reads.dict (kvs := []) (as := []) (bs := []) h1 h2.1 h3 (by rw [he]; exact ReadsAll.nil) (by rw [he]; exact ReadsAll.nil), fun z => ?_⟩
    simp at z
    rw [z] at hsys
    simp at hsys
  | .dic (_ :: _), p, _, _, e, _, _ => by
    unfold toP at e
    cases e
  | .obj _ _, p, _, _, e, _, _ => by
    unfold toP at e
    cases e
  | .scr _, p, _, _, e, _, _ => by
    unfold toP at e
    cases e
  | .kls _, p, _, _, e, _, _ => by
    unfold toP at e
    cases e
theorem reads_all (hb : SysB X.base) (I : Inv X pins σ H s) : ∀ (ds : List D) (ps : List PyData) (vs : List V) (us : List Value), toPs ds = some ps → RelDs X.K H ds vs → Vals vs us → ∃ as, ReadsAll s.heap us ps as ∧ sysModules ∉ as
  | [], ps, _, _, e, .nil, r => by
    unfold toPs at e
    cases e; cases r
    exact ⟨_, ReadsAll.nil, by simp⟩
  | d :: ds, ps, _, _, e, .cons h hs, r => by
    unfold toPs at e
    split at e
    · rename_i p q
      split at e
      · rename_i ps' q2
        cases e
        cases r with
        | cons r1 r2 =>
          obtain ⟨as, q3, n3⟩ := reads_of hb I d p _ _ q h r1
          obtain ⟨bs, q4, n4⟩ := reads_all hb I ds ps' _ _ q2 hs r2
          refine ⟨_, ReadsAll.cons q3 q4, fun m => ?_⟩
          rcases List.mem_append.mp m with m | m
          · exact n3 m
          · exact n4 m
      · cases e
    · cases e
end
end

/-! ## repr -/
def shownD (p : PyData) : D := .str p.shown
/-- what may be shown: small enough, and a dict in no list -/
noncomputable def reprOk (d : D) (p : PyData) : Bool := chk (p.showable = true ∧ p.depth ≤ 60 ∧ p.shown.length ≤ sizeLine)
noncomputable def gRepr : D → Option D := fun d => match toP d with
  | some p => bif reprOk d p then some (shownD p) else none
  | none => none
/-- a built-in of one argument, the argument looked at -/
def OpH (X : Cx) (id : String) (g : D → Option D) : Prop := ∀ (pins : List (Addr × Obj)) (s : Shared) (σ : L2.St) (S H : Hp) (d z : D) (x : V) (u : Value) (Q : VK), g d = some z → Inv X pins σ H s → Vw X.K S H d x → Same S H → RelV x u →
  (∀ v, RelD X.K S z v → Q v H) → (∀ p o, H p = none → RelD X.K (upd S p o) z (.ref p) → Q (.ref p) (upd H p o)) → wpAny (model X.prog X.w) X.A (call (.builtin id) [u]) (EP X pins σ Q) X.xe s
def rOpH (X : Cx) (id : String) : List V → Hp → VK → Prop := fun xs H Q => ∀ (pins : List (Addr × Obj)) (s : Shared) (σ : L2.St) (us : List Value), Inv X pins σ H s → Vals xs us → wpAny (model X.prog X.w) X.A (call (.builtin id) us) (EP X pins σ Q) X.xe s
theorem callR_self {X : Cx} (id : String) : CallR X (.builtin id) (rOpH X id) := fun pins s σ H xs us Q I r h => h pins s σ us I r
section
variable {X : Cx} {c : Ct} {e : Expr} {x : Str} {p pos : Pos} {id : String} {g : D → Option D} {fa : M Hd}
theorem t_opH (ho : OpH X id g) (σ : L2.St) (H : Hp) (Q : VK) (h : tM X.K c (m1H g fa) σ H Q) : tCB (rOpH X id) (tCons (tH X.K c fa) tNil) σ H Q := by
  obtain ⟨S, env, d, env', E, e1, k⟩ := h
  unfold m1H at e1
  split at e1
  · cases e1
  · rename_i da ea qa
    split at e1
    · cases e1
    · rename_i a' q1
      split at e1
      · cases e1
      · rename_i z qz
        cases e1
        refine ⟨S, env, da, _, E, qa, fun S1 H1 v1 E1 s1 r1 => ?_⟩
        intro pins s σ' us I rv
        cases rv with
        | cons ru rn =>
          cases rn
          exact ho pins s σ' S1 H1 a' _ v1 _ Q qz I (view E1 r1 q1) E1.sub ru (fun v r => k S1 H1 v E1 s1 r) fun p o hp r => k _ _ _ (E1.laid o hp) (s1.trans (same_upd (E1.sub.free hp))) r
/-- f(e), f a built-in that looks at its argument -/
theorem f_look (ho : OpH X id g) (ha : FH X c e fa) (hg : Gl X x) (hm : X.mg x = none) (hv : bootBuiltins x = some (.builtin id)) (hn : x ≠ "__name__" := by decide) (hdb : (x == ("__debug__" : Str)) = false := by decide)
    (he : starEach [e] X.env = (false, eval e X.env) :: starEach [] X.env := by rfl) (hpl : (backTo pos (starEach ([] : List Expr) X.env)).any (·.1) = false := by rfl) : FE X c (.Call (.Name x p) [e] [] pos) (m1H g fa) :=
  (pe_callB (callR_self id) hg hm hv (pa_cons ha pa_nil he) hn hdb he hpl).weak (t_opH ho)
theorem oh_repr {k : Nat} (gu : Gd X.A X.base) (room : Room k X.A) : OpH X "repr" gRepr := by
  intro pins s σ S H d z x u Q q I w hs ru kv ka
  unfold gRepr at q
  split at q
  · rename_i pd hp
    obtain ⟨ok, rfl⟩ := bif_some q
    · obtain ⟨o1, o2, o3⟩ := chk_of ok
      have rel := w.rel hs
      obtain ⟨as, rd, hn⟩ := reads_of gu.sys I d pd x u hp rel ru
      have fin : ∀ h' (t' : Nat) (tk : Tok), (∀ b o, s.heap.get? b = some o → h'.get? b = some o) → EP X pins σ Q (.str pd.shown tk) { s with heap := h', toks := t' } := fun h' t' tk kk => ⟨.str pd.shown, H, I.kept kk, ⟨tk, rfl⟩, kv _ (.str _)⟩
      have rm := room.units
      cases d with
      | non => cases rel; cases ru; cases hp; exact P.repr_of_none (fin s.heap _ _ fun _ _ z => z)
      | bl b => cases rel; cases ru; cases hp; exact P.repr_of_bool (fin s.heap _ _ fun _ _ z => z)
      | int i => cases rel; obtain ⟨t, rfl⟩ := ru; cases hp; exact P.repr_of_int (by simpa [PyData.showable] using o1) (fin s.heap _ _ fun _ _ z => z)
      | str y => cases rel; obtain ⟨t, rfl⟩ := ru; cases hp; exact P.repr_of_str (fin s.heap _ _ fun _ _ z => z) o3
      | lst xs =>
        cases rel; cases ru
        refine repr_of_reads' rd o1 (fun _ => hn) gu.gu (by omega) (fun _ _ z => z) (fun h' u tk kk => fin h' _ _ kk) o3
      | tup xs =>
        cases rel; cases ru
        refine repr_of_reads' rd o1 (fun _ => hn) gu.gu (by omega) (fun _ _ z => z) (fun h' u tk kk => fin h' _ _ kk) o3
      | dic xs =>
        cases rel; cases ru
        refine repr_of_reads' rd o1 (fun _ => hn) gu.gu (by omega) (fun _ _ z => z) (fun h' u tk kk => fin h' _ _ kk) o3
      | obj n xs => cases hp
      | scr ns => cases hp
      | kls n => cases hp
  · cases q
theorem f_repr {k : Nat} (gu : Gd X.A X.base) (room : Room k X.A) (ha : FH X c e fa) (hg : Gl X "repr") (hm : X.mg "repr" = none)
    (he : starEach [e] X.env = (false, eval e X.env) :: starEach [] X.env := by rfl) (hpl : (backTo pos (starEach ([] : List Expr) X.env)).any (·.1) = false := by rfl) : FE X c (.Call (.Name "repr" p) [e] [] pos) (m1H gRepr fa) :=
  f_look (oh_repr gu room) ha hg hm (by decide +kernel) (by decide) (by decide) he hpl
/-! ## len -/
def gLen : D → Option D
  | .lst xs => some (.int xs.length)
  | .tup xs => some (.int xs.length)
  | .str x => if x.length ≤ sizeLine then some (.int x.length) else none
  | .scr ns => some (.int ns.length)
  | _ => none
theorem oh_len : OpH X "len" gLen := by
  intro pins s σ S H d z x u Q q I w hs ru kv ka
  have go : ∀ n : Nat, LenV X.K x H n → z = .int n → wpAny (model X.prog X.w) X.A (call (.builtin "len") [u]) (EP X pins σ Q) X.xe s := fun n hn e => by
    subst e
    exact call_len pins s σ H [x] [u] Q I (.cons ru .nil) ⟨x, n, rfl, hn, kv _ (.int _)⟩
  cases d with
  | lst xs =>
    cases q
    obtain ⟨a, vs, rfl, h, r⟩ := w.lst hs
    exact go xs.length (.inl ⟨vs, .of h, r.length⟩) rfl
  | tup xs =>
    cases q
    obtain ⟨a, vs, rfl, h, r⟩ := w.tup hs
    exact go xs.length (.inr ⟨vs, h.sq, r.length⟩) rfl
  | str y =>
    have q' : (if y.length ≤ sizeLine then some (D.int y.length) else none) = some z := q
    split at q'
    · rename_i hz
      cases q'
      rcases w with w | ⟨p, _, w⟩
      · cases w
        exact go y.length ⟨hz, rfl⟩ rfl
      · exact w.elim
    · cases q'
  | non => cases q
  | bl b => cases q
  | int i => cases q
  | dic xs => cases q
  | obj n xs => cases q
  | kls n => cases q
  | scr ns =>
    cases q
    rcases w with w | ⟨p, _, w⟩
    · cases w with
      | scr h => exact go ns.length (.inl ⟨_, hs.seq h, by rw [List.length_map]⟩) rfl
    · exact w.elim
theorem f_len (ha : FH X c e fa) (hg : Gl X "len") (hm : X.mg "len" = none)
    (he : starEach [e] X.env = (false, eval e X.env) :: starEach [] X.env := by rfl) (hpl : (backTo pos (starEach ([] : List Expr) X.env)).any (·.1) = false := by rfl) : FE X c (.Call (.Name "len" p) [e] [] pos) (m1H gLen fa) :=
  f_look oh_len ha hg hm (by decide +kernel) (by decide) (by decide) he hpl
end

/-! ## == and != of data -/
noncomputable def eqOk (d e : PyData) : Bool := chk (SeqAt.shaped d = true ∧ SeqAt.shaped e = true)
noncomputable def gEqD : D → D → Option D := fun d e => match toP d, toP e with
  | some p, some q => bif eqOk p q then some (.bl (PyData.eqv p q)) else none
  | _, _ => none
noncomputable def gNeD : D → D → Option D := fun d e => match toP d, toP e with
  | some p, some q => bif eqOk p q then some (.bl (!PyData.eqv p q)) else none
  | _, _ => none
mutual
theorem dp_of {K : PySem.W.Frag} {H : Hp} : ∀ (d : D) (p : PyData) (v : V), toP d = some p → p.canLay0 = true → RelD K H d v → Dp K H v p
  | .non, p, _, e, _, .non => by have e' : some PyData.none = some p := e; cases e'; exact .non
  | .bl b, p, _, e, _, .bl _ => by have e' : some (PyData.bool b) = some p := e; cases e'; exact .bl b
  | .int i, p, _, e, _, .int _ => by have e' : some (PyData.int i) = some p := e; cases e'; exact .int i
  | .str x, p, _, e, _, .str _ => by have e' : some (PyData.str x) = some p := e; cases e'; exact .str x
  | .lst xs, p, _, e, l, .lst h rs => by
    unfold toP at e
    split at e
    · rename_i ps q
      cases e
      exact .lst (.of h) (dps_of xs ps _ q (by simpa [PyData.canLay0] using l) rs)
    · cases e
  | .tup xs, p, _, e, l, .tup h rs => by
    unfold toP at e
    split at e
    · rename_i ps q
      cases e
      exact .tup h.sq (dps_of xs ps _ q (by simpa [PyData.canLay0] using l) rs)
    · cases e
  | .dic [], p, _, e, l, _ => by
    unfold toP at e
    cases e
    simp [PyData.canLay0] at l
  | .dic (_ :: _), p, _, e, _, _ => by
    unfold toP at e
    cases e
  | .obj _ _, p, _, e, _, _ => by
    unfold toP at e
    cases e
  | .scr _, p, _, e, _, _ => by
    unfold toP at e
    cases e
  | .kls _, p, _, e, _, _ => by
    unfold toP at e
    cases e
theorem dps_of {K : PySem.W.Frag} {H : Hp} : ∀ (d : List D) (p : List PyData) (v : List V), toPs d = some p → PyData.canLayAll0 p = true → RelDs K H d v → DpAll K H v p
  | [], p, _, e, _, .nil => by
    unfold toPs at e
    cases e; exact .nil
  | d :: ds, p, _, e, l, .cons h hs => by
    unfold toPs at e
    split at e
    · rename_i p1 q
      split at e
      · rename_i ps q2
        cases e
        have l' : p1.canLay0 = true ∧ PyData.canLayAll0 ps = true := by simpa [PyData.canLayAll0] using l
        exact .cons (dp_of d p1 _ q l'.1 h) (dps_of ds ps _ q2 l'.2 hs)
      · cases e
    · cases e
end
section
variable {K : PySem.W.Frag}
theorem o2_eqD : Op2 K (rEqD K) gEqD := by
  intro S H d e z x y Q q hd he hs kv ka
  unfold gEqD at q
  split at q
  · rename_i p p' q1 q2
    obtain ⟨ok, rfl⟩ := bif_some q
    · obtain ⟨s1, s2⟩ := chk_of ok
      exact ⟨p, p', dp_of d p x q1 (SeqAt.canLay_of_shaped s1) (hd.rel hs), dp_of e p' y q2 (SeqAt.canLay_of_shaped s2) (he.rel hs), s1, s2, kv _ (.bl _)⟩
  · cases q
theorem o2_neD : Op2 K (rNeD K) gNeD := by
  intro S H d e z x y Q q hd he hs kv ka
  unfold gNeD at q
  split at q
  · rename_i p p' q1 q2
    obtain ⟨ok, rfl⟩ := bif_some q
    · obtain ⟨s1, s2⟩ := chk_of ok
      exact ⟨p, p', dp_of d p x q1 (SeqAt.canLay_of_shaped s1) (hd.rel hs), dp_of e p' y q2 (SeqAt.canLay_of_shaped s2) (he.rel hs), s1, s2, kv _ (.bl _)⟩
  · cases q
end
noncomputable def gEq : D → D → Option D
  | .str x, .str y => some (.bl (decide (x = y)))
  | d, e => gEqD d e
noncomputable def gNe : D → D → Option D
  | .str x, .str y => some (.bl (!decide (x = y)))
  | d, e => gNeD d e
theorem op2_or {X : Cx} {f : Value → Value → Sem Value} {r r' : R2} (h : OpR X f r) (h' : OpR X f r') : OpR X f (fun x y H Q => r x y H Q ∨ r' x y H Q) := fun pins s σ H x y v u Q I rx ry q => q.elim (h pins s σ H x y v u Q I rx ry) (h' pins s σ H x y v u Q I rx ry)
theorem vwS {K : PySem.W.Frag} {S H : Hp} {i : Str} {x : V} (h : Vw K S H (.str i) x) : x = .str i := by
  rcases h with h | ⟨p, _, h⟩
  · cases h; rfl
  · exact h.elim
theorem o2_eq {K : PySem.W.Frag} : Op2 K (fun x y H Q => rEq x y H Q ∨ rEqD K x y H Q) gEq := by
  intro S H d e z x y Q q hd he hs kv ka
  unfold gEq at q
  split at q
  · cases q
    have e1 := vwS hd
    have e2 := vwS he
    subst e1 e2
    refine .inl ⟨rfl, ?_⟩
    have h := kv _ (.bl _)
    rename_i x' y'
    have e3 : decide (V.str x' = V.str y') = decide (x' = y') := by
      by_cases e : x' = y'
      · subst e; simp
      · rw [decide_eq_false e]; exact decide_eq_false fun z => e (V.str.inj z)
    rw [e3]; exact h
  · exact .inr (o2_eqD S H d e z x y Q q hd he hs kv ka)
theorem o2_ne {K : PySem.W.Frag} : Op2 K (fun x y H Q => rNe x y H Q ∨ rNeD K x y H Q) gNe := by
  intro S H d e z x y Q q hd he hs kv ka
  unfold gNe at q
  split at q
  · cases q
    have e1 := vwS hd
    have e2 := vwS he
    subst e1 e2
    refine .inl ⟨rfl, ?_⟩
    have h := kv _ (.bl _)
    rename_i x' y'
    have e3 : decide (V.str x' = V.str y') = decide (x' = y') := by
      by_cases e : x' = y'
      · subst e; simp
      · rw [decide_eq_false e]; exact decide_eq_false fun z => e (V.str.inj z)
    rw [e3]; exact h
  · exact .inr (o2_neD S H d e z x y Q q hd he hs kv ka)
section
variable {X : Cx} {c : Ct} {a b : Expr} {pos : Pos} {fa fb : M Hd}
theorem f_eq {k : Nat} (room : Room k X.A) (ha : FH X c a fa) (hb : FH X c b fb) : FE X c (.Compare a [.Eq] [b] pos) (m2H gEq fa fb) := f_cmp (op2_or op_eq (op_eqD room.units)) o2_eq ha hb (nobehind _ (by decide) (by decide))
theorem f_ne {k : Nat} (room : Room k X.A) (ha : FH X c a fa) (hb : FH X c b fb) : FE X c (.Compare a [.NotEq] [b] pos) (m2H gNe fa fb) := f_cmp (op2_or op_ne (op_neD room.units)) o2_ne ha hb (nobehind _ (by decide) (by decide))
theorem ft_eq {k : Nat} (room : Room k X.A) (ha : FH X c a fa) (hb : FH X c b fb) : FT X c (.Compare a [.Eq] [b] pos) (mTb (m2H gEq fa fb)) := ft_cmp (op2_or op_eq (op_eqD room.units)) o2_eq ha hb (nobehind _ (by decide) (by decide))
theorem ft_ne {k : Nat} (room : Room k X.A) (ha : FH X c a fa) (hb : FH X c b fb) : FT X c (.Compare a [.NotEq] [b] pos) (mTb (m2H gNe fa fb)) := ft_cmp (op2_or op_ne (op_neD room.units)) o2_ne ha hb (nobehind _ (by decide) (by decide))
theorem ft_lt (ha : FH X c a fa) (hb : FH X c b fb) : FT X c (.Compare a [.Lt] [b] pos) (mTb (mLt fa fb)) := ft_cmp op_lt (o2_cmp _) ha hb (nobehind _ (by decide) (by decide))
theorem ft_le (ha : FH X c a fa) (hb : FH X c b fb) : FT X c (.Compare a [.LtE] [b] pos) (mTb (mLe fa fb)) := ft_cmp op_le (o2_cmp _) ha hb (nobehind _ (by decide) (by decide))
theorem ft_gt (ha : FH X c a fa) (hb : FH X c b fb) : FT X c (.Compare a [.Gt] [b] pos) (mTb (mGt fa fb)) := ft_cmp op_gt (o2_cmp _) ha hb (nobehind _ (by decide) (by decide))
theorem ft_ge (ha : FH X c a fa) (hb : FH X c b fb) : FT X c (.Compare a [.GtE] [b] pos) (mTb (mGe fa fb)) := ft_cmp op_ge (o2_cmp _) ha hb (nobehind _ (by decide) (by decide))
end
end FL

set_option Elab.async false
set_option linter.all false
set_option maxRecDepth 100000
set_option maxHeartbeats 2000000
namespace FL
open PySem PySem.Spec PyProof.Rows L2

/-! ## isinstance against a built-in class -/
def kindN : D → String
  | .non => "NoneType"
  | .bl _ => "bool"
  | .int _ => "int"
  | .str _ => "str"
  | .lst _ => "list"
  | .tup _ => "tuple"
  | .dic _ => "dict"
  | .obj _ _ => "?"
  | .scr _ => "list"
  | .kls _ => "?"
/-- the answer, for the classes that are asked here -/
def isiB (a b : String) : Bool := a == b || (a == "bool" && b == "int")
def isObjD : D → Bool
  | .obj _ _ => true
  | .kls _ => true
  | _ => false
def gIsi (T : String) : D → Option D := fun d => if isObjD d = true then none else some (.bl (isiB (kindN d) T))
theorem tyX_of {K : PySem.W.Frag} {S H : Hp} {d : D} {v : V} (w : Vw K S H d v) (hs : Same S H) (h : isObjD d = false) : TyX K H v (.type (kindN d)) := by
  cases d with
  | non => rcases w with w | ⟨p, _, w⟩; (cases w; exact .base .non); exact w.elim
  | bl b => rcases w with w | ⟨p, _, w⟩; (cases w; exact .base (.bl b)); exact w.elim
  | int i => rcases w with w | ⟨p, _, w⟩; (cases w; exact .base (.int i)); exact w.elim
  | str x => rcases w with w | ⟨p, _, w⟩; (cases w; exact .base (.str x)); exact w.elim
  | lst xs => obtain ⟨a, vs, rfl, h, _⟩ := w.lst hs; exact .base (.lst h)
  | tup xs =>
    obtain ⟨a, vs, rfl, h, _⟩ := w.tup hs
    rcases h with h | ⟨o, its, n, k, hc, _⟩
    · exact .base (.tup h)
    · exact .kTuple k hc
  | dic xs => obtain ⟨a, vs, rfl, h, _⟩ := w.dic hs; exact .base (.dK h)
  | obj n xs => cases h
  | kls n => cases h
  | scr ns =>
    rcases w with w | ⟨p, _, w⟩
    · cases w with
      | scr h =>
        rcases hs.seq h with (h | ⟨o, h⟩) | ⟨o, its, n, k, hc, _⟩
        · exact .base (.lst h)
        · exact .base (.frz h)
        · exact .kList k hc
    · exact w.elim
def kits : List String := ["NoneType", "bool", "int", "str", "list", "tuple", "dict"]
def asks : List String := ["int", "bool", "str", "list", "tuple", "dict"]
theorem kit_tab : ∀ a ∈ kits, ∀ b ∈ asks, kitB a b = some (isiB a b) := by decide +kernel
theorem kind_in (d : D) (h : isObjD d = false) : kindN d ∈ kits := by
  cases d <;> first | (cases h; done) | simp [kindN, kits]
section
variable {X : Cx} {c : Ct} {e : Expr} {p p2 pos : Pos} {fa : M Hd} {T : String}
theorem f_isi {y : Str} (hT : T ∈ asks) (ha : FH X c e fa) (hg : Gl X "isinstance") (hm : X.mg "isinstance" = none) (hgT : Gl X y) (hmT : X.mg y = none) (hv : bootBuiltins y = some (.type T)) (hn : y ≠ "__name__" := by decide) (hdb : (y == ("__debug__" : Str)) = false := by decide)
    (he : starEach [e, .Name y p2] X.env = (false, eval e X.env) :: starEach [.Name y p2] X.env := by rfl) (he2 : starEach [.Name y p2] X.env = (false, eval (.Name y p2) X.env) :: starEach [] X.env := by rfl) (hpl : (backTo pos (starEach ([.Name y p2] : List Expr) X.env)).any (·.1) = false := by rfl) :
    FE X c (.Call (.Name "isinstance" p) [e, .Name y p2] [] pos) (m1H (gIsi T) fa) :=
  (pe_callB call_isi hg hm (by decide +kernel) (pa_cons ha (pa_cons (pe_bltn (v := .ty T) hgT hmT hv rfl hn hdb) pa_nil he2) he) (by decide) (by decide) he hpl).weak fun σ H Q h => by
    obtain ⟨S, env, d, env', E, e1, k⟩ := h
    unfold m1H at e1
    split at e1
    · cases e1
    · rename_i da ea qa
      split at e1
      · cases e1
      · rename_i a' q1
        split at e1
        · cases e1
        · rename_i z qz
          cases e1
          refine ⟨S, env, da, _, E, qa, fun S1 H1 v1 E1 s1 r1 => ?_⟩
          unfold gIsi at qz
          split at qz
          · cases qz
          · rename_i ho
            cases qz
            have ho' : isObjD a' = false := by simpa using ho
            exact ⟨v1, .ty T, _, _, _, rfl, .ty T, tyX_of (view E1 r1 q1) E1.sub ho', kit_ty (kit_tab _ (kind_in a' ho') T hT), k S1 H1 _ E1 s1 (.bl _)⟩
end

/-! ## items -/
theorem atI_rel {K : PySem.W.Frag} {S : Hp} {ds : List D} {vs : List V} {i : Int} {d : D} (r : RelDs K S ds vs) (h : atI ds i = some d) : ∃ v, atI vs i = some v ∧ RelD K S d v := by
  unfold atI at h ⊢
  rw [← r.length]
  cases e : ixN ds.length i with
  | none => rw [e] at h; cases h
  | some j =>
    rw [e] at h
    exact r.get h
def gIx : D → D → Option D
  | .lst xs, .int i => atI xs i
  | .tup xs, .int i => atI xs i
  | .scr ns, .int i => match atI ns i with
    | some n => some (.int n)
    | none => none
  | .str x, .int i => if x.length ≤ sizeLine then (match atI x.cps.toList i with
    | some ch => some (.str ⟨#[ch]⟩)
    | none => none) else none
  | _, _ => none
theorem o2_ix {K : PySem.W.Frag} : Op2 K (rIx K) gIx := by
  intro S H d e z x y Q q hd he hs kv ka
  unfold gIx at q
  split at q
  · rename_i xs i
    obtain ⟨a, vs, rfl, h, r⟩ := hd.lst hs
    obtain ⟨v, hv, rv⟩ := atI_rel r q
    exact .inl ⟨a, vs, i, v, rfl, vw_int he, .of h, hv, kv v rv⟩
  · rename_i xs i
    obtain ⟨a, vs, rfl, h, r⟩ := hd.tup hs
    obtain ⟨v, hv, rv⟩ := atI_rel r q
    exact .inr (.inl ⟨a, vs, i, v, rfl, vw_int he, h.sq, hv, kv v rv⟩)
  · rename_i ns i
    split at q
    · rename_i n hn
      cases q
      rcases hd with hd | ⟨p, _, w⟩
      · cases hd with
        | scr h =>
          refine .inl ⟨_, _, i, .int n, rfl, vw_int he, hs.seq h, ?_, kv _ (.int n)⟩
          unfold atI at hn ⊢
          rw [List.length_map]
          cases e : ixN ns.length i with
          | none => rw [e] at hn; cases hn
          | some j =>
            rw [e] at hn
            have hn' : ns[j]? = some n := hn
            show (ns.map V.int)[j]? = some (V.int n)
            rw [List.getElem?_map, hn']; rfl
      · exact w.elim
    · cases q
  · rename_i x' i
    split at q
    · rename_i hz
      split at q
      · rename_i ch hc
        cases q
        rcases hd with hd | ⟨p, _, w⟩
        · cases hd
          exact .inr (.inr ⟨x', i, ch, rfl, vw_int he, hz, hc, kv _ (.str _)⟩)
        · exact w.elim
      · cases q
    · cases q
  · cases q
section
variable {X : Cx} {c : Ct} {a b : Expr} {pos : Pos} {fa fb : M Hd}
theorem f_item (ha : FH X c a fa) (hb : FH X c b fb) (hs : PlainIx b) : FE X c (.Subscript a b pos) (m2H gIx fa fb) := f_ix ix_seq o2_ix ha hb hs
/-! ## d[k] of a dict, by an int or a text -/
def keyD : D → Option Key
  | .int i => some (.inl i)
  | .str x => some (.inr x)
  | _ => none
def getK (kvs : List (Key × D)) (k : Key) : Option D := (kvs.find? fun kv => decide (kv.1 = k)).map (·.2)
def gDGet : D → D → Option D
  | .dic kvs, k => match keyD k with
    | some k' => getK kvs k'
    | none => none
  | _, _ => none
theorem getK_rel {K : PySem.W.Frag} {S : Hp} {k : Key} : ∀ {ds : List (Key × D)} {vs : List (Key × V)} {d : D}, RelKs K S ds vs → getK ds k = some d → ∃ v, valV vs k = some v ∧ RelD K S d v
  | _, _, _, .nil, h => by cases h
  | _, _, d, .cons (k := k') (d := d') (ds := ds) (v := v') (vs := vs) r rs, h => by
    by_cases e : k' = k
    · rw [valV_pos e]
      have h' : getK ((k', d') :: ds) k = some d' := by simp [getK, e]
      rw [h'] at h; cases h
      exact ⟨_, rfl, r⟩
    · rw [valV_neg e]
      have h' : getK ((k', d') :: ds) k = getK ds k := by simp [getK, e]
      rw [h'] at h
      exact getK_rel rs h
theorem key_vw {K : PySem.W.Frag} {S H : Hp} {d : D} {k : Key} {v : V} (h : keyD d = some k) (w : Vw K S H d v) : v = kV k := by
  unfold keyD at h
  split at h
  · cases h; exact vw_int w
  · cases h
    rcases w with w | ⟨p, _, w⟩
    · cases w; rfl
    · exact w.elim
  · cases h
theorem o2_dget {K : PySem.W.Frag} : Op2 K (fun x y H Q => ∃ a v, x = .ref a ∧ DGet H a y (some v) ∧ Q v H) gDGet := by
  intro S H d e z x y Q q hd he hs kv ka
  unfold gDGet at q
  split at q
  · rename_i kvs k
    split at q
    · rename_i k' hk
      obtain ⟨a, vs, rfl, h, r⟩ := hd.dic hs
      obtain ⟨v, hv, rv⟩ := getK_rel r q
      refine ⟨a, v, rfl, ?_, kv v rv⟩
      rw [key_vw hk he, ← hv]
      exact DGet.k h
    · cases q
  · cases q
theorem f_dget {k : Nat} (room : Room k X.A) (ha : FH X c a fa) (hb : FH X c b fb) (hs : NoSl b) : FE X c (.Subscript a b pos) (m2H gDGet fa fb) :=
  (pe_dget (hu_of room) ha hb hs).weak (t2H o2_dget)
end
/-- d[k] = v, k a written text, d one's own -/
def putKD (kvs : List (Key × D)) (k : Key) (d : D) : List (Key × D) := if (kvs.any fun kv => decide (kv.1 = k)) = true then kvs.map (fun kv => if kv.1 = k then (kv.1, d) else kv) else kvs ++ [(k, d)]
def sDPutD (i : Nat) (k : Key) (fv : M D) : FS := fun e => match fv e with
  | some (d, e1) => (match e1[i]? with
    | some (.ow f (.dic kvs)) => if kvs.length < 1000 then some (.nx (e1.set i (.ow f (.dic (putKD kvs k d))))) else none
    | _ => none)
  | none => none
theorem RelKs.length {K : PySem.W.Frag} {S : Hp} : ∀ {ds : List (Key × D)} {vs : List (Key × V)}, RelKs K S ds vs → ds.length = vs.length
  | _, _, .nil => rfl
  | _, _, .cons _ r => congrArg (· + 1) (RelKs.length r)
theorem RelKs.append {K : PySem.W.Frag} {S : Hp} : ∀ {ds es : List (Key × D)} {vs us : List (Key × V)}, RelKs K S ds vs → RelKs K S es us → RelKs K S (ds ++ es) (vs ++ us)
  | _, _, _, _, .nil, s => s
  | _, _, _, _, .cons h r, s => .cons h (RelKs.append r s)
theorem RelKs.any {K : PySem.W.Frag} {S : Hp} {k : Key} : ∀ {ds : List (Key × D)} {vs : List (Key × V)}, RelKs K S ds vs → (ds.any fun kv => decide (kv.1 = k)) = vs.any fun kv => decide (kv.1 = k)
  | _, _, .nil => rfl
  | _, _, .cons _ r => by rw [List.any_cons, List.any_cons, RelKs.any r]
theorem RelKs.setAt {K : PySem.W.Frag} {S : Hp} {k : Key} {d : D} {v : V} (h : RelD K S d v) : ∀ {ds : List (Key × D)} {vs : List (Key × V)}, RelKs K S ds vs → RelKs K S (ds.map fun kv => if kv.1 = k then (kv.1, d) else kv) (vs.map fun kv => if kv.1 = k then (kv.1, v) else kv)
  | _, _, .nil => .nil
  | _, _, .cons (k := k') r rs => by
    rw [List.map_cons, List.map_cons]
    by_cases e : k' = k
    · rw [if_pos e, if_pos e]; exact .cons h (RelKs.setAt h rs)
    · rw [if_neg e, if_neg e]; exact .cons r (RelKs.setAt h rs)
theorem RelKs.put {K : PySem.W.Frag} {S : Hp} {k : Key} {d : D} {v : V} (h : RelD K S d v) {ds : List (Key × D)} {vs : List (Key × V)} (r : RelKs K S ds vs) : RelKs K S (putKD ds k d) (putK vs k v) := by
  unfold putKD putK
  rw [r.any]
  by_cases e : (vs.any fun kv => decide (kv.1 = k)) = true
  · rw [if_pos e, if_pos e]; exact r.setAt h
  · rw [if_neg e, if_neg e]; exact r.append (.cons h .nil)
section
variable {X : Cx} {c : Ct} {a b value : Expr} {pos pos' : Pos}
theorem fs_dput {n i : Nat} {x : Str} {px pk : Pos} {kk : Str} {jj} {fv : M D} (room : Room n X.A) (hi : PE X (.Name x px) (tVar i)) (hv : FE X c value fv) (hs : swapsWith value (some (.Subscript (.Name x px) (.Constant (.str kk) jj pk) pos')) pos.line X.env = pure false := by rfl) :
    FSt X c (.Assign [.Subscript (.Name x px) (.Constant (.str kk) jj pk) pos'] value pos) (sDPutD i (.inr kk) fv) := (ps_dput (hu_of room) hi pe_str hv hs).weak fun D' σ H ⟨S, env, o, E, e1, k⟩ => by
  unfold sDPutD at e1
  split at e1
  · rename_i d e2 q
    split at e1
    · rename_i f kvs q2
      split at e1
      · rename_i hl
        cases e1
        refine ⟨S, env, d, e2, E, q, fun S1 H1 v E1 s1 r1 => ?_⟩
        obtain ⟨p, a, ⟨vs, hp, rk⟩, z, w⟩ := E1.ow i f _ q2
        refine ⟨_, a, p, _, rfl, DPut.k (k := Sum.inr kk) hp (by rw [← rk.length]; exact small1000 (by omega)), ?_⟩
        exact k S1 _ σ (E1.chg q2 a (fun b hb => upd_ne hb) ⟨_, upd_same, rk.put r1⟩) s1
      · cases e1
    · cases e1
  · cases e1
/-- {'a': x, ..}: written texts, names -/
def mDispN : List (Str × Nat) → M (List (Key × D))
  | [], e => some ([], e)
  | (k, i) :: r, e => match e[i]? with
    | some (.sh d) => (match mDispN r e with
      | some (kvs, e1) => some ((.inr k, d) :: kvs, e1)
      | none => none)
    | _ => none
def mDicN (l : List (Str × Nat)) : M D := fun e => match mDispN l e with
  | some (kvs, e1) => some (.dic kvs, e1)
  | none => none
def trsN (l : List (Str × Nat)) : List (TE × TE) := l.map fun q => (tC (.str q.1), tVar q.2)
theorem dispN_env : ∀ {l : List (Str × Nat)} {e e1 : En} {kvs : List (Key × D)}, mDispN l e = some (kvs, e1) → e1 = e ∧ kvs.map (·.1) = l.map fun q => (.inr q.1 : Key)
  | [], _, _, _, h => by cases h; exact ⟨rfl, rfl⟩
  | (k, i) :: r, e, e1, kvs, h => by
    unfold mDispN at h
    split at h
    · split at h
      · rename_i q
        cases h
        obtain ⟨a, b⟩ := dispN_env q
        exact ⟨a, by rw [List.map_cons, List.map_cons, b]⟩
      · cases h
    · cases h
theorem tPairs_N {K : PySem.W.Frag} {S : Hp} {σ : L2.St} {env : En} (sh : ∀ (i : Nat) (d : D), env[i]? = some (.sh d) → ∃ v, σ[i]? = some (some v) ∧ RelD K S d v) :
    ∀ {l : List (Str × Nat)} {kvs : List (Key × D)} {e1 : En} {H : Hp} {Q : List (V × V) → Hp → Prop}, mDispN l env = some (kvs, e1) → (∀ vs, RelKs K S kvs vs → Q (vs.map fun kv => (kV kv.1, kv.2)) H) → tPairs (trsN l) σ H Q
  | [], _, _, _, _, h, k => by cases h; exact k [] .nil
  | (key, i) :: r, kvs, e1, H, Q, h, k => by
    unfold mDispN at h
    split at h
    · rename_i d q1
      split at h
      · rename_i kvs' e' q
        cases h
        obtain ⟨v, a, rv⟩ := sh i d q1
        refine ⟨v, a, ?_⟩
        exact tPairs_N sh q fun vs rs => k ((.inr key, v) :: vs) (.cons rv rs)
      · cases h
    · cases h
theorem mergeK_new : ∀ (more kvs : List (Key × V)), ((kvs ++ more).map (·.1)).Nodup → mergeK kvs more = kvs ++ more
  | [], kvs, _ => (List.append_nil kvs).symm
  | p :: r, kvs, nd => by
    show mergeK (putK kvs p.1 p.2) r = _
    have hn : p.1 ∉ kvs.map (·.1) := by
      rw [List.map_append] at nd
      intro h
      exact (List.nodup_append.mp nd).2.2 _ h p.1 (by simp) rfl
    have e : putK kvs p.1 p.2 = kvs ++ [p] := by
      unfold putK
      rw [if_neg]
      intro h
      obtain ⟨q, hq, e⟩ := List.any_eq_true.mp h
      exact hn (List.mem_map.mpr ⟨q, hq, of_decide_eq_true e⟩)
    rw [e, mergeK_new r (kvs ++ [p]) (by simpa using nd)]
    simp
theorem RelKs.keys {K : PySem.W.Frag} {S : Hp} : ∀ {ds : List (Key × D)} {vs : List (Key × V)}, RelKs K S ds vs → ds.map (·.1) = vs.map (·.1)
  | _, _, .nil => rfl
  | _, _, .cons _ r => by rw [List.map_cons, List.map_cons, RelKs.keys r]
theorem fo_dicN {keys : List (Option Expr)} {values : List Expr} (l : List (Str × Nat)) (h : PPs X pos keys values (trsN l)) (hall : keys.all (·.isSome) = true) (hl : keys.length = values.length) (h0 : keys ≠ []) (h15 : keys.length ≤ 15) (hl15 : l.length ≤ 15) (nd : (l.map (·.1)).Nodup) :
    FO X c (.Dict keys values pos) (mDicN l) := (pe_disp h hall hl h0 h15).weak fun σ H Q ⟨S, env, d, env', E, e1, kk⟩ => by
  unfold mDicN at e1
  split at e1
  · rename_i kvs e2 q
    cases e1
    obtain ⟨rfl, ek⟩ := dispN_env q
    intro p hp
    refine tPairs_N E.sh q fun vs rs => ⟨upd_same, vs, rfl, ?_, ?_⟩
    · have : kvs.length = l.length := by have := congrArg List.length ek; simpa using this
      rw [← rs.length, this]; exact hl15
    · rw [upd_upd, mergeK_new vs [] ?_]
      · rw [List.nil_append]
        refine kk S _ p (E.lay _ hp) (Same.refl _) ⟨vs, upd_same, rs⟩ (E.sub.free hp) ?_ fun j f e q z => ?_
        · cases ez : c.H0 p with
          | none => rfl
          | some o => exact absurd hp (E.dom p (by rw [ez]; exact fun z => nomatch z))
        · obtain ⟨p1, a1, o1, _⟩ := E.ow j f e q
          rw [a1] at z; cases z
          exact o1.there hp
      · rw [List.nil_append, ← rs.keys, ek]
        have : (l.map fun q => (Sum.inr q.1 : Key)) = (l.map (·.1)).map Sum.inr := by rw [List.map_map]; rfl
        rw [this]
        refine nd.map Sum.inr fun a b hab z => hab (Sum.inr.inj z)
  · cases e1
/-- {} -/
theorem fo_dic0 : FO X c (.Dict [] [] pos) (mDicN []) := pe_dnewK.weak fun σ H Q ⟨S, env, d, env', E, e1, kk⟩ => by
  cases e1
  intro p hp
  refine kk S _ p (E.lay _ hp) (Same.refl _) ⟨[], upd_same, .nil⟩ (E.sub.free hp) ?_ fun j f e q z => ?_
  · cases ez : c.H0 p with
    | none => rfl
    | some o => exact absurd hp (E.dom p (by rw [ez]; exact fun z => nomatch z))
  · obtain ⟨p1, a1, o1, _⟩ := E.ow j f e q
    rw [a1] at z; cases z
    exact o1.there hp
end
end FL

set_option Elab.async false
set_option linter.all false
set_option maxRecDepth 100000
set_option maxHeartbeats 2000000
namespace FL
open PySem PySem.Spec PyProof.Rows L2

/-! ## + and * -/
theorem opR_or {X : Cx} {f : Value → Value → Sem Value} {r r' : R2} (h : OpR X f r) (h' : OpR X f r') : OpR X f (fun x y H Q => r x y H Q ∨ r' x y H Q) := fun pins s σ H x y v u Q I rx ry q => q.elim (h pins s σ H x y v u Q I rx ry) (h' pins s σ H x y v u Q I rx ry)
def gAdd : D → D → Option D
  | .int i, .int j => some (.int (i + j))
  | .lst xs, .lst ys => if xs.length + ys.length ≤ sizeLine then some (.lst (xs ++ ys)) else none
  | .tup xs, .tup ys => if xs.length + ys.length ≤ sizeLine then some (.tup (xs ++ ys)) else none
  | .str x, .str y => if x.length + y.length ≤ sizeLine then some (.str (x ++ y)) else none
  | _, _ => none
def rAddStr : R2 := fun x y H Q => ∃ i j, x = .str i ∧ y = .str j ∧ i.length + j.length ≤ sizeLine ∧ Q (.str (i ++ j)) H
def rAdd4 (K : PySem.W.Frag) : R2 := fun x y H Q => rI0 (fun i j => .int (i + j)) x y H Q ∨ rCat x y H Q ∨ rCatA K x y H Q ∨ rAddStr x y H Q
theorem vw_str {K : PySem.W.Frag} {S H : Hp} {i : Str} {x : V} (h : Vw K S H (.str i) x) : x = .str i := by
  rcases h with h | ⟨p, _, h⟩
  · cases h; rfl
  · exact h.elim
theorem o2_add {K : PySem.W.Frag} : Op2 K (rAdd4 K) gAdd := by
  intro S H d e z x y Q q hd he hs kv ka
  unfold gAdd at q
  split at q
  · cases q
    exact .inl ⟨_, _, vw_int hd, vw_int he, kv _ (.int _)⟩
  · rename_i xs ys
    split at q
    · rename_i hz
      cases q
      obtain ⟨a, vs, rfl, h1, r1⟩ := hd.lst hs
      obtain ⟨b, us, rfl, h2, r2⟩ := he.lst hs
      refine .inr (.inl ⟨a, b, vs, us, rfl, rfl, h1, h2, by rw [← r1.length, ← r2.length]; exact hz, fun p hp => ka p _ hp ?_⟩)
      exact .lst upd_same ((r1.append r2).mono (same_upd (hs.free hp)))
    · cases q
  · rename_i xs ys
    split at q
    · rename_i hz
      cases q
      obtain ⟨a, vs, rfl, h1, r1⟩ := hd.tup hs
      obtain ⟨b, us, rfl, h2, r2⟩ := he.tup hs
      have back : ∀ {ds : List D} {v : V}, Vw K S H (.tup ds) v → RelD K S (.tup ds) v := fun {ds v} w => by
        rcases w with w | ⟨p, _, w⟩
        · exact w
        · exact w.elim
      refine .inr (.inr (.inl ⟨a, b, vs, us, rfl, rfl, h1.sq, h2.sq, by rw [← r1.length, ← r2.length]; exact hz, fun e => ?_, fun _ e => ?_, fun _ _ p hp => ka p _ hp ?_⟩))
      · subst e
        cases r1
        exact kv _ (back he)
      · subst e
        cases r2
        exact kv _ (by rw [List.append_nil]; exact back hd)
      · exact .tup (.inl upd_same) ((r1.append r2).mono (same_upd (hs.free hp)))
    · cases q
  · rename_i x' y'
    split at q
    · rename_i hz
      cases q
      exact .inr (.inr (.inr ⟨_, _, vw_str hd, vw_str he, hz, kv _ (.str _)⟩))
    · cases q
  · cases q
noncomputable def cRep (k : Int) (n : Nat) : Bool := chk (-(2 ^ 63) ≤ k ∧ k < 2 ^ 63 ∧ n * k.toNat ≤ sizeLine)
noncomputable def gMul : D → D → Option D
  | .int i, .int j => bif cMul i j then some (.int (i * j)) else none
  | .lst xs, .int k => bif cRep k xs.length then some (.lst (List.replicate k.toNat xs).flatten) else none
  | _, _ => none
theorem RelDs.rep {K : PySem.W.Frag} {S : Hp} {ds : List D} {vs : List V} (r : RelDs K S ds vs) : ∀ n : Nat, RelDs K S (List.replicate n ds).flatten (List.replicate n vs).flatten
  | 0 => .nil
  | n + 1 => by
    rw [List.replicate_succ, List.replicate_succ, List.flatten_cons, List.flatten_cons]
    exact r.append (RelDs.rep r n)
theorem o2_mul {K : PySem.W.Frag} : Op2 K (fun x y H Q => rI (fun i j => CMulX i j) (fun i j => .int (i * j)) x y H Q ∨ rRep x y H Q) gMul := by
  intro S H d e z x y Q q hd he hs kv ka
  unfold gMul at q
  split at q
  · obtain ⟨hz, rfl⟩ := bif_some q
    · exact .inl ⟨_, _, vw_int hd, vw_int he, chk_of hz, kv _ (.int _)⟩
  · rename_i xs k
    obtain ⟨hz, rfl⟩ := bif_some q
    · have hz := chk_of hz
      obtain ⟨a, vs, rfl, h1, r1⟩ := hd.lst hs
      refine .inr ⟨a, k, vs, rfl, vw_int he, h1, hz.1, hz.2.1, by rw [← r1.length]; exact hz.2.2, fun p hp => ka p _ hp ?_⟩
      exact .lst upd_same ((r1.rep _).mono (same_upd (hs.free hp)))
  · cases q
section
variable {X : Cx} {c : Ct} {a b : Expr} {pos : Pos} {fa fb : M Hd}
abbrev mAddA := m2H gAdd
noncomputable abbrev mMulA := m2H gMul
theorem f_addA (ha : FH X c a fa) (hb : FH X c b fb) : FE X c (.BinOp a .Add b pos) (mAddA fa fb) := f_binH (opR_or op_add (opR_or op_cat (opR_or op_catA op_add_str))) o2_add ha hb
theorem f_mulA (ha : FH X c a fa) (hb : FH X c b fb) : FE X c (.BinOp a .Mult b pos) (mMulA fa fb) := f_binH (opR_or op_mulX op_rep) o2_mul ha hb
end

/-! ## slices -/
def cutA {α : Type} (xs : List α) (lo hi : Option Int) : List α := (xs.drop (HT.sIx xs.length 0 lo)).take (HT.sIx xs.length xs.length hi - HT.sIx xs.length 0 lo)
def gSl : D → Option Int → Option Int → Option D
  | .tup xs, lo, hi => some (.tup (cutA xs lo hi))
  | .lst xs, lo, hi => some (.lst (cutA xs lo hi))
  | _, _, _ => none
def mPn : M (Option Int) := fun e => some (none, e)
def mPs (f : M D) : M (Option Int) := fun e => match f e with
  | some (.int i, e1) => some (some i, e1)
  | _ => none
def mSl (fa : M Hd) (flo fhi : M (Option Int)) : M D := fun e => match fa e with
  | some (h, e1) => (match flo e1 with
    | some (lo, e2) => (match fhi e2 with
      | some (hi, e3) => (match deref e3 h with
        | some d => (match gSl d lo hi with
          | some z => some (z, e3)
          | none => none)
        | none => none)
      | none => none)
    | none => none)
  | none => none
def tPt (K : PySem.W.Frag) (c : Ct) (f : M (Option Int)) : TO := fun σ H Q => ∃ S env o env', Er K c S H σ env ∧ f env = some (o, env') ∧ ∀ S' H', Er K c S' H' σ env' → Same S S' → Q o H'
section
variable {X : Cx} {c : Ct} {e : Expr} {pos p2 : Pos} {lo hi : Option Expr}
theorem fp_none : PO X none (tPt X.K c mPn) := ⟨fun pins s σ H Q I ⟨S, env, o, env', E, e1, k⟩ => by
  cases e1
  exact po_none.run pins s σ H Q I (k S H E (Same.refl _))⟩
theorem fp_some {f : M D} (h : FE X c e f) : PO X (some e) (tPt X.K c (mPs f)) := ⟨fun pins s σ H Q I ⟨S, env, o, env', E, e1, k⟩ => by
  unfold mPs at e1
  split at e1
  · rename_i i e2 q
    cases e1
    refine (po_some h).run pins s σ H Q I ⟨S, env, _, _, E, q, fun S1 H1 v E1 s1 r1 => ?_⟩
    cases r1
    exact ⟨i, rfl, k S1 H1 E1 s1⟩
  · cases e1⟩
theorem f_slice {fa : M Hd} {fl fh : M (Option Int)} (ha : FH X c e fa) (hl : PO X lo (tPt X.K c fl)) (hh : PO X hi (tPt X.K c fh)) : FE X c (.Subscript e (.Slice lo hi none p2) pos) (mSl fa fl fh) :=
  (pe_slice (sl_tupA.or sl_list) ha hl hh).weak fun σ H Q ⟨S, env, d, env', E, e1, k⟩ => by
    unfold mSl at e1
    split at e1
    · rename_i h ea qa
      split at e1
      · rename_i l el ql
        split at e1
        · rename_i u eu qu
          split at e1
          · rename_i d' qd
            split at e1
            · rename_i z qz
              cases e1
              refine ⟨S, env, h, ea, E, qa, fun S1 H1 v E1 s1 r1 => ⟨S1, ea, l, el, E1, ql, fun S2 H2 E2 s2 => ⟨S2, el, u, _, E2, qu, fun S3 H3 E3 s3 => ?_⟩⟩⟩
              have w := view E3 ((r1.mono s2).mono s3) qd
              have s13 := (s1.trans s2).trans s3
              unfold gSl at qz
              split at qz
              · rename_i xs
                cases qz
                obtain ⟨a, vs, rfl, h1, r⟩ := w.tup E3.sub
                refine .inl ⟨a, vs, rfl, h1.sq, fun hw => ?_, fun _ p hp => ?_⟩
                · have e : cutA xs l u = xs := by
                    unfold cutA
                    rw [r.length, hw.1, hw.2, List.drop_zero, Nat.sub_zero, ← r.length, List.take_length]
                  refine k S3 H3 _ E3 s13 ?_
                  rw [e]
                  rcases w with w | ⟨p, _, w⟩
                  · exact w
                  · exact w.elim
                · refine k _ _ _ (E3.laid _ hp) (s13.trans (same_upd (E3.sub.free hp))) (.tup (.inl upd_same) ?_)
                  refine RelDs.mono (same_upd (E3.sub.free hp)) ?_
                  unfold cutA cutV
                  rw [r.length]
                  exact (r.drop _).take _
              · rename_i xs
                cases qz
                obtain ⟨a, vs, rfl, h1, r⟩ := w.lst E3.sub
                refine .inr ⟨a, vs, rfl, .of h1, fun p hp => ?_⟩
                refine k _ _ _ (E3.laid _ hp) (s13.trans (same_upd (E3.sub.free hp))) (.lst upd_same ?_)
                refine RelDs.mono (same_upd (E3.sub.free hp)) ?_
                unfold cutA cutV
                rw [r.length]
                exact (r.drop _).take _
              · cases qz
            · cases e1
          · cases e1
        · cases e1
      · cases e1
    · cases e1
end

/-! ## built-ins by values -/
def gMin2 : List D → Option D
  | [.int i, .int j] => some (.int (if j < i then j else i))
  | _ => none
def gMax2 : List D → Option D
  | [.int i, .int j] => some (.int (if j > i then j else i))
  | _ => none
def gList : List D → Option D
  | [.lst xs] => some (.lst xs)
  | [.tup xs] => some (.lst xs)
  | _ => none
def gTuple : List D → Option D
  | [.lst xs] => some (.tup xs)
  | [.tup xs] => some (.tup xs)
  | _ => none
noncomputable def intOk (i : Int) : Bool := chk (i.natAbs.log2 < 1920)
noncomputable def gStrI : List D → Option D
  | [.int i] => bif intOk i then some (.str (toString i)) else none
  | _ => none
section
variable {X : Cx} {c : Ct} {e : Expr} {es : List Expr} {x : Str} {p pos : Pos} {id T : String} {r : List V → Hp → VK → Prop} {g : List D → Option D} {f : M (List D)}
theorem f_blt (hc : CallR X (.builtin id) r) (ho : OpN X.K r g) (ha : FA X c (e :: es) f) (hg : Gl X x) (hm : X.mg x = none) (hv : bootBuiltins x = some (.builtin id)) (hn : x ≠ "__name__" := by decide) (hdb : (x == ("__debug__" : Str)) = false := by decide)
    (he : starEach (e :: es) X.env = (false, eval e X.env) :: starEach es X.env := by rfl) (hpl : (backTo pos (starEach es X.env)).any (·.1) = false := by rfl) : FE X c (.Call (.Name x p) (e :: es) [] pos) (mMk g f) := (pe_callB hc hg hm hv ha hn hdb he hpl).weak (tN ho)
theorem f_bty (hc : CallR X (.type T) r) (ho : OpN X.K r g) (ha : FA X c (e :: es) f) (hg : Gl X x) (hm : X.mg x = none) (hv : bootBuiltins x = some (.type T)) (hn : x ≠ "__name__" := by decide) (hdb : (x == ("__debug__" : Str)) = false := by decide)
    (he : starEach (e :: es) X.env = (false, eval e X.env) :: starEach es X.env := by rfl) (hpl : (backTo pos (starEach es X.env)).any (·.1) = false := by rfl) : FE X c (.Call (.Name x p) (e :: es) [] pos) (mMk g f) := (pe_callTy hc hg hm hv ha hn hdb he hpl).weak (tN ho)
theorem on_min2 {K : PySem.W.Frag} : OpN K (fun xs H Q => ∃ i j, xs = [.int i, .int j] ∧ Q (.int (if j < i then j else i)) H) gMin2 := by
  intro S H ds z xs Q q rs hs kv ka
  unfold gMin2 at q
  split at q
  · cases q
    cases rs with
    | cons r1 rs => cases rs with
      | cons r2 rs => cases rs; cases r1; cases r2; exact ⟨_, _, rfl, kv _ (.int _)⟩
  · cases q
theorem on_max2 {K : PySem.W.Frag} : OpN K (fun xs H Q => ∃ i j, xs = [.int i, .int j] ∧ Q (.int (if j > i then j else i)) H) gMax2 := by
  intro S H ds z xs Q q rs hs kv ka
  unfold gMax2 at q
  split at q
  · cases q
    cases rs with
    | cons r1 rs => cases rs with
      | cons r2 rs => cases rs; cases r1; cases r2; exact ⟨_, _, rfl, kv _ (.int _)⟩
  · cases q
theorem on_list {K : PySem.W.Frag} : OpN K (fun xs H Q => ∃ p ys, xs = [.ref p] ∧ (SqL K H p ys ∨ SqT K H p ys) ∧ ∀ l, H l = none → Q (.ref l) (upd H l (.lst ys))) gList := by
  intro S H ds z xs Q q rs hs kv ka
  unfold gList at q
  split at q
  · cases q
    cases rs with
    | cons r1 rs => cases rs; cases r1 with
      | lst h r => exact ⟨_, _, rfl, .inl (.of (hs _ _ h)), fun p hp => ka p _ hp (.lst upd_same (r.mono (same_upd (hs.free hp))))⟩
  · cases q
    cases rs with
    | cons r1 rs => cases rs; cases r1 with
      | tup h r => exact ⟨_, _, rfl, .inr (h.same hs).sq, fun p hp => ka p _ hp (.lst upd_same (r.mono (same_upd (hs.free hp))))⟩
  · cases q
theorem on_tuple {K : PySem.W.Frag} : OpN K (fun xs H Q => ∃ p ys, xs = [.ref p] ∧ ((SqL K H p ys ∧ ∀ l, H l = none → Q (.ref l) (upd H l (.tup ys))) ∨ (SqT K H p ys ∧ Q (.ref p) H))) gTuple := by
  intro S H ds z xs Q q rs hs kv ka
  unfold gTuple at q
  split at q
  · cases q
    cases rs with
    | cons r1 rs => cases rs; cases r1 with
      | lst h r => exact ⟨_, _, rfl, .inl ⟨.of (hs _ _ h), fun p hp => ka p _ hp (.tup (.inl upd_same) (r.mono (same_upd (hs.free hp))))⟩⟩
  · cases q
    cases rs with
    | cons r1 rs => cases rs; cases r1 with
      | tup h r => exact ⟨_, _, rfl, .inr ⟨(h.same hs).sq, kv _ (.tup h r)⟩⟩
  · cases q
theorem on_str {K : PySem.W.Frag} : OpN K (fun xs H Q => ∃ i, xs = [.int i] ∧ i.natAbs.log2 < 1920 ∧ Q (.str (toString i)) H) gStrI := by
  intro S H ds z xs Q q rs hs kv ka
  unfold gStrI at q
  split at q
  · obtain ⟨hz, rfl⟩ := bif_some q
    · cases rs with
      | cons r1 rs => cases rs; cases r1; exact ⟨_, rfl, chk_of hz, kv _ (.str _)⟩
  · cases q
theorem f_min2 {a b : Expr} (hca : X.calm = true) (ha : FA X c [a, b] f) (hg : Gl X "min") (hm : X.mg "min" = none) (he : starEach [a, b] X.env = (false, eval a X.env) :: starEach [b] X.env := by rfl) (hpl : (backTo pos (starEach [b] X.env)).any (·.1) = false := by rfl) :
    FE X c (.Call (.Name "min" p) [a, b] [] pos) (mMk gMin2 f) := f_blt (call_min2 hca) on_min2 ha hg hm (by decide +kernel) (by decide) (by decide) he hpl
theorem f_max2 {a b : Expr} (hca : X.calm = true) (ha : FA X c [a, b] f) (hg : Gl X "max") (hm : X.mg "max" = none) (he : starEach [a, b] X.env = (false, eval a X.env) :: starEach [b] X.env := by rfl) (hpl : (backTo pos (starEach [b] X.env)).any (·.1) = false := by rfl) :
    FE X c (.Call (.Name "max" p) [a, b] [] pos) (mMk gMax2 f) := f_blt (call_max2 hca) on_max2 ha hg hm (by decide +kernel) (by decide) (by decide) he hpl
theorem f_list {a : Expr} (ha : FA X c [a] f) (hg : Gl X "list") (hm : X.mg "list" = none) (he : starEach [a] X.env = (false, eval a X.env) :: starEach [] X.env := by rfl) (hpl : (backTo pos (starEach ([] : List Expr) X.env)).any (·.1) = false := by rfl) :
    FE X c (.Call (.Name "list" p) [a] [] pos) (mMk gList f) := f_bty call_list_of on_list ha hg hm (by decide +kernel) (by decide) (by decide) he hpl
theorem f_tuple {a : Expr} (ha : FA X c [a] f) (hg : Gl X "tuple") (hm : X.mg "tuple" = none) (he : starEach [a] X.env = (false, eval a X.env) :: starEach [] X.env := by rfl) (hpl : (backTo pos (starEach ([] : List Expr) X.env)).any (·.1) = false := by rfl) :
    FE X c (.Call (.Name "tuple" p) [a] [] pos) (mMk gTuple f) := f_bty call_tuple_of on_tuple ha hg hm (by decide +kernel) (by decide) (by decide) he hpl
theorem f_strI {a : Expr} (ha : FA X c [a] f) (hg : Gl X "str") (hm : X.mg "str" = none) (he : starEach [a] X.env = (false, eval a X.env) :: starEach [] X.env := by rfl) (hpl : (backTo pos (starEach ([] : List Expr) X.env)).any (·.1) = false := by rfl) :
    FE X c (.Call (.Name "str" p) [a] [] pos) (mMk gStrI f) := f_bty call_str_int on_str ha hg hm (by decide +kernel) (by decide) (by decide) he hpl
end

/-! ## for and while -/
def loopF (set : FG) (body : FS) : List D → En → Option Out
  | [], e => some (.nx e)
  | d :: r, e => match set d e with
    | none => none
    | some e1 => match body e1 with
      | some (.nx e2) => loopF set body r e2
      | some (.ct e2) => loopF set body r e2
      | some (.bk e2) => some (.nx e2)
      | some (.rt d e2) => some (.rt d e2)
      | some (.ro d e2) => some (.ro d e2)
      | none => none
/-- what may be walked: its items -/
def itemsD : D → Option (List D)
  | .lst xs => some xs
  | .scr ns => some (ns.map .int)
  | _ => none
def sForL (f : M D) (set : FG) (body : FS) : FS := fun e => match f e with
  | some (d, e1) => (match itemsD d with
    | some ds => loopF set body ds e1
    | none => none)
  | none => none
def sForT (f : M D) (set : FG) (body : FS) : FS := fun e => match f e with
  | some (.tup ds, e1) => loopF set body ds e1
  | _ => none
def upTo (n : Nat) : List D := (List.range n).map fun (i : Nat) => D.int (i : Int)
def rgOk (j : Int) : Bool := decide (-(2 ^ 62) ≤ j) && decide (j < 2 ^ 62)
def sForR (f : M (List D)) (set : FG) (body : FS) : FS := fun e => match f e with
  | some ([.int j], e1) => if rgOk j = true then loopF set body (upTo j.toNat) e1 else none
  | _ => none
section
variable {X : Cx} {c : Ct} {tg l a b t : Expr} {body : List Stmt} {pos p : Pos} {set : FG} {fb : FS}
/-- one turn -/
theorem loop_turn {K : PySem.W.Frag} {S S1 : Hp} {D' : Ends} {d : D} {r : List D} {x : V} {o : Out} {e : En} {σ : L2.St} {H : Hp} {Pn : L2.St → Hp → Prop} (E : Er K c S1 H σ e) (s1 : Same S S1) (rd : RelD K S1 d x) (q : loopF set fb (d :: r) e = some o)
    (nx : ∀ S2 H2 σ2 e2, Er K c S2 H2 σ2 e2 → Same S S2 → loopF set fb r e2 = some o → Pn σ2 H2) (k : oK K c S D' o) : tG K c set x σ H fun σ2 H2 => tS K c fb { D' with nx := Pn, ct := Pn, bk := D'.nx } σ2 H2 := by
  unfold loopF at q
  split at q
  · cases q
  · rename_i e1 q1
    refine ⟨S1, e, d, e1, E, rd, q1, fun σ2 S2 H2 E2 s2 => ?_⟩
    have s12 := s1.trans s2
    split at q
    · rename_i e2 q2
      exact ⟨S2, e1, _, E2, q2, fun S3 H3 σ3 E3 s3 => nx S3 H3 σ3 e2 E3 (s12.trans s3) q⟩
    · rename_i e2 q2
      exact ⟨S2, e1, _, E2, q2, fun S3 H3 σ3 E3 s3 => nx S3 H3 σ3 e2 E3 (s12.trans s3) q⟩
    · rename_i e2 q2
      cases q
      exact ⟨S2, e1, _, E2, q2, fun S3 H3 σ3 E3 s3 => k S3 H3 σ3 E3 (s12.trans s3)⟩
    · rename_i d' e2 q2
      cases q
      exact ⟨S2, e1, _, E2, q2, fun S3 H3 σ3 v E3 s3 r3 => k S3 H3 σ3 v E3 (s12.trans s3) r3⟩
    · rename_i d' e2 q2
      cases q
      exact ⟨S2, e1, _, E2, q2, fun S3 H3 σ3 v E3 s3 r3 => k S3 H3 σ3 v E3 (s12.trans s3) r3⟩
    · cases q
theorem fs_forL {f : M D} (hp : PassesOwn (model X.prog X.w) X.A X.env X.xe) (hc : X.calm = true) (hl : FE X c l f) (hg : FGt X c tg set) (hb : FSs X c body fb) (hs : ∀ x, foldedSetIterable l X.env x = pure x := by intro _; rfl) : FSt X c (.For tg l body [] pos) (sForL f set fb) :=
  (ps_for hp hc (pi_list hl) hg hb hs).weak fun D' σ H ⟨S, env, o, E, e1, k⟩ => by
    unfold sForL at e1
    split at e1
    · rename_i d e2 q
      split at e1
      · rename_i ds qd
        refine ⟨S, env, d, e2, E, q, fun S1 H1 v E1 s1 r1 => ?_⟩
        obtain ⟨a, vs, rfl, hv, rs⟩ : ∃ a vs, v = .ref a ∧ SqL X.K S1 a vs ∧ RelDs X.K S1 ds vs := by
          unfold itemsD at qd
          split at qd
          · cases qd; cases r1 with
            | lst h r => exact ⟨_, _, rfl, .of h, r⟩
          · cases qd; cases r1 with
            | scr h => exact ⟨_, _, rfl, h, .of_ints _⟩
          · cases qd
        refine ⟨a, rfl, ⟨vs, E1.sub.seq hv⟩, for_list (xs := vs) (fun i σ H => ∃ S2 e, Er X.K c S2 H σ e ∧ Same S1 S2 ∧ loopF set fb (ds.drop i) e = some o) ⟨S1, e2, E1, Same.refl _, by rw [List.drop_zero]; exact e1⟩ ?_ ?_ ?_⟩
        · rintro i σ' H' _ ⟨S2, e, E2, s2, _⟩
          exact (s2.trans E2.sub).seq hv
        · rintro i x σ' H' hx ⟨S2, e, E2, s2, q2⟩
          have hi : i < ds.length := by rw [rs.length]; exact (List.getElem?_eq_some_iff.mp hx).1
          rw [List.drop_eq_getElem_cons hi] at q2
          obtain ⟨x', hx', rx⟩ := rs.get (List.getElem?_eq_getElem hi)
          rw [hx] at hx'; cases hx'
          exact loop_turn (S := S1) E2 s2 (rx.mono s2) q2 (fun S3 H3 σ3 e3 E3 s3 q3 => ⟨S3, e3, E3, s3, q3⟩) (k.mono s1)
        · rintro σ' H' ⟨S2, e, E2, s2, q2⟩
          rw [List.drop_eq_nil_of_le (by rw [rs.length]; exact Nat.le_refl _)] at q2
          cases q2
          exact k S2 H' σ' E2 (s1.trans s2)
      · cases e1
    · cases e1
theorem fs_forT {f : M D} (hp : PassesOwn (model X.prog X.w) X.A X.env X.xe) (hc : X.calm = true) (hl : FE X c l f) (hg : FGt X c tg set) (hb : FSs X c body fb) (hs : ∀ x, foldedSetIterable l X.env x = pure x := by intro _; rfl) : FSt X c (.For tg l body [] pos) (sForT f set fb) :=
  (ps_for hp hc (pi_tup hl) hg hb hs).weak fun D' σ H ⟨S, env, o, E, e1, k⟩ => by
    unfold sForT at e1
    split at e1
    · rename_i ds e2 q
      refine ⟨S, env, _, e2, E, q, fun S1 H1 v E1 s1 r1 => ?_⟩
      cases r1 with
      | @tup a _ vs h rs =>
        refine ⟨a, rfl, ⟨vs, (h.same E1.sub).sq⟩, for_tup (xs := vs) (fun i σ H => ∃ S2 e, Er X.K c S2 H σ e ∧ Same S1 S2 ∧ loopF set fb (ds.drop i) e = some o) ⟨S1, e2, E1, Same.refl _, by rw [List.drop_zero]; exact e1⟩ ?_ ?_ ?_⟩
        · rintro i σ' H' _ ⟨S2, e, E2, s2, _⟩
          exact (h.same (s2.trans E2.sub)).sq
        · rintro i x σ' H' hx ⟨S2, e, E2, s2, q2⟩
          have hi : i < ds.length := by rw [rs.length]; exact (List.getElem?_eq_some_iff.mp hx).1
          rw [List.drop_eq_getElem_cons hi] at q2
          obtain ⟨x', hx', rx⟩ := rs.get (List.getElem?_eq_getElem hi)
          rw [hx] at hx'; cases hx'
          exact loop_turn (S := S1) E2 s2 (rx.mono s2) q2 (fun S3 H3 σ3 e3 E3 s3 q3 => ⟨S3, e3, E3, s3, q3⟩) (k.mono s1)
        · rintro σ' H' ⟨S2, e, E2, s2, q2⟩
          rw [List.drop_eq_nil_of_le (by rw [rs.length]; exact Nat.le_refl _)] at q2
          cases q2
          exact k S2 H' σ' E2 (s1.trans s2)
    · cases e1
theorem upTo_drop {n i : Nat} (h : i < n) : (upTo n).drop i = .int (i : Int) :: (upTo n).drop (i + 1) := by
  have e : (List.range n).drop i = i :: (List.range n).drop (i + 1) := by
    rw [List.drop_eq_getElem_cons (by simpa using h)]
    simp
  unfold upTo
  rw [← List.map_drop, ← List.map_drop, e]
  rfl
theorem fs_forR {f : M (List D)} (hp : PassesOwn (model X.prog X.w) X.A X.env X.xe) (hc : X.calm = true) (hl : FA X c [a] f) (hg : FGt X c tg set) (hb : FSs X c body fb) (gl : Gl X "range") (hm : X.mg "range" = none) (he : starEach [a] X.env = [(false, eval a X.env)] := by rfl)
    {p2 : Pos} (hs2 : ∀ x, foldedSetIterable (.Call (.Name "range" p) [a] [] p2) X.env x = pure x := by intro _; rfl) : FSt X c (.For tg (.Call (.Name "range" p) [a] [] p2) body [] pos) (sForR f set fb) :=
  (ps_for hp hc (pi_range1 gl hm hl he) hg hb hs2).weak fun D' σ H ⟨S, env, o, E, e1, k⟩ => by
    unfold sForR at e1
    split at e1
    · rename_i j e2 q
      split at e1
      · rename_i hj
        unfold rgOk at hj
        simp only [Bool.and_eq_true, decide_eq_true_eq] at hj
        refine ⟨S, env, _, e2, E, q, fun S1 H1 vs E1 s1 r1 => ?_⟩
        cases r1 with
        | cons r1 rn =>
          cases rn; cases r1
          refine ⟨j, rfl, hj.1, hj.2, for_range (lo := 0) (n := j.toNat) (fun i σ H => ∃ S2 e, Er X.K c S2 H σ e ∧ Same S1 S2 ∧ loopF set fb ((upTo j.toNat).drop i) e = some o) ⟨S1, e2, E1, Same.refl _, by rw [List.drop_zero]; exact e1⟩ ?_ ?_⟩
          · rintro i σ' H' hi ⟨S2, e, E2, s2, q2⟩
            rw [upTo_drop hi] at q2
            rw [Int.zero_add]
            exact loop_turn (S := S1) E2 s2 (.int _) q2 (fun S3 H3 σ3 e3 E3 s3 q3 => ⟨S3, e3, E3, s3, q3⟩) (k.mono s1)
          · rintro σ' H' ⟨S2, e, E2, s2, q2⟩
            rw [List.drop_eq_nil_of_le (by unfold upTo; simp)] at q2
            cases q2
            exact k S2 H' σ' E2 (s1.trans s2)
      · cases e1
    · cases e1
/-- while, at most n turns -/
def whileF (tst : M Bool) (body : FS) : Nat → En → Option Out
  | 0, _ => none
  | n + 1, e => match tst e with
    | some (false, e1) => some (.nx e1)
    | some (true, e1) => (match body e1 with
      | some (.nx e2) => whileF tst body n e2
      | some (.ct e2) => whileF tst body n e2
      | some (.bk e2) => some (.nx e2)
      | some (.rt d e2) => some (.rt d e2)
      | some (.ro d e2) => some (.ro d e2)
      | none => none)
    | none => none
def sWhile (n : Nat) (tst : M Bool) (body : FS) : FS := whileF tst body n
theorem fs_while {n : Nat} {ft : M Bool} (hp : PassesOwn (model X.prog X.w) X.A X.env X.xe) (ht : FT X c t ft) (hb : FSs X c body fb) : FSt X c (.While t body [] pos) (sWhile n ft fb) :=
  (ps_while hp ht hb).weak fun D' σ H ⟨S, env, o, E, e1, k⟩ => by
    refine ⟨fun m σ H => ∃ S2 e, Er X.K c S2 H σ e ∧ Same S S2 ∧ whileF ft fb m e = some o, ⟨n, S, env, E, Same.refl _, e1⟩, ?_⟩
    rintro m σ' H' ⟨S2, e, E2, s2, q⟩
    cases m with
    | zero => cases q
    | succ m =>
      unfold whileF at q
      split at q
      · rename_i e2 q2
        cases q
        exact ⟨S2, e, _, e2, E2, q2, fun S3 H3 E3 s3 => iteF (k S3 H3 σ' E3 (s2.trans s3))⟩
      · rename_i e2 q2
        refine ⟨S2, e, _, e2, E2, q2, fun S3 H3 E3 s3 => iteT ⟨fun σ4 H4 => ∃ S4 e4, Er X.K c S4 H4 σ4 e4 ∧ Same S S4 ∧ whileF ft fb m e4 = some o, ?_, ?_⟩⟩
        · rintro σ4 H4 ⟨S4, e4, E4, s4, q4⟩
          exact ⟨m, Nat.lt_succ_self _, S4, e4, E4, s4, q4⟩
        · have s13 := s2.trans s3
          split at q
          · rename_i e3 q3
            exact ⟨S3, e2, _, E3, q3, fun S4 H4 σ4 E4 s4 => ⟨S4, e3, E4, s13.trans s4, q⟩⟩
          · rename_i e3 q3
            exact ⟨S3, e2, _, E3, q3, fun S4 H4 σ4 E4 s4 => ⟨S4, e3, E4, s13.trans s4, q⟩⟩
          · rename_i e3 q3
            cases q
            exact ⟨S3, e2, _, E3, q3, fun S4 H4 σ4 E4 s4 => k S4 H4 σ4 E4 (s13.trans s4)⟩
          · rename_i d e3 q3
            cases q
            exact ⟨S3, e2, _, E3, q3, fun S4 H4 σ4 v E4 s4 r4 => k S4 H4 σ4 v E4 (s13.trans s4) r4⟩
          · rename_i d e3 q3
            cases q
            exact ⟨S3, e2, _, E3, q3, fun S4 H4 σ4 v E4 s4 r4 => k S4 H4 σ4 v E4 (s13.trans s4) r4⟩
          · cases q
      · cases q
end
end FL

set_option Elab.async false
set_option linter.all false
set_option maxRecDepth 100000
set_option maxHeartbeats 2000000
namespace FL
open PySem PySem.Spec PyProof.Rows L2

/-! ## a, b = x, y -/
def sPar (is : List Nat) (f : M (List D)) : FS := fun e => match f e with
  | some (ds, e1) => (match gSets (is.map gSet) ds e1 with
    | some e2 => some (.nx e2)
    | none => none)
  | none => none
section
variable {X : Cx} {c : Ct} {a b d : Expr} {pos px py pz pt pt2 : Pos} {kt k2}
theorem fs_par {i j : Nat} {x y : Str} {f : M (List D)} (hc : X.calm = true) (hN : X.N.Nodup) (hi : X.N[i]? = some x) (hj : X.N[j]? = some y) (hij : i ≠ j) (hx : X.env.scope.names.lookup x = some .local) (hy : X.env.scope.names.lookup y = some .local) (ha : FA X c [a, b] f)
    (hw : swappedStores [.Tuple [.Name x px, .Name y py] kt pt] (.Tuple [a, b] k2 pt2) X.env = pure (some [x, y])) (hs : swapsWithSole [.Tuple [.Name x px, .Name y py] kt pt] (.Tuple [a, b] k2 pt2) pos.line X.env = pure false := by rfl) :
    FSt X c (.Assign [.Tuple [.Name x px, .Name y py] kt pt] (.Tuple [a, b] k2 pt2) pos) (sPar [i, j] f) := (ps_par hc hN hi hj hij hx hy ha hw hs).weak fun D' σ H ⟨S, env, o, E, e1, k⟩ => by
  unfold sPar at e1
  split at e1
  · rename_i ds e2 q
    split at e1
    · rename_i e3 q2
      cases e1
      refine ⟨S, env, ds, e2, E, q, fun S1 H1 vs E1 s1 r1 => ?_⟩
      obtain ⟨d1, d2, rfl⟩ : ∃ d1 d2, ds = [d1, d2] := by
        have hl : ds.length = 2 := gSets_len q2
        match ds, hl with
        | [d1, d2], _ => exact ⟨d1, d2, rfl⟩
      cases r1 with
      | cons r1 r => cases r with
        | cons r2 r =>
          cases r
          have q2' : (match gSet i d1 e2 with
            | some e1 => gSets [gSet j] [d2] e1
            | none => none) = some e3 := q2
          split at q2'
          · rename_i ea qa
            have q3 : (match gSet j d2 ea with
              | some e1 => gSets [] [] e1
              | none => none) = some e3 := q2'
            split at q3
            · rename_i eb qb
              have q4 : some eb = some e3 := q3
              cases q4
              exact ⟨_, _, rfl, k S1 H1 _ (gSet_ok (gSet_ok E1 qa r1) qb r2) s1⟩
            · cases q3
          · cases q2'
    · cases e1
  · cases e1
end

/-! ## calls by keywords -/
def mCallK (φ : Fn) (g : List D → List D → List D) (fa fk : M (List D)) : M D := fun e => match fa e with
  | some (ds, e1) => (match fk e1 with
    | some (zs, e2) => (match φ ((g ds zs).map .sh) with
      | some (r, _) => some (r, e2)
      | none => none)
    | none => none)
  | none => none
/-- how keywords are put in the parameters' order, for any kind of things -/
abbrev Perm := (α : Type) → List α → List α → List α
theorem kbinds_of {K : PySem.W.Frag} {fd : FuncData} {ps ks : List Str} (g : Perm) (hto : ∀ us ws : List Value, (g Value us ws).length = ps.length → bindArgs fd ⟨us, ks.zip ws⟩ = pure (ps.zip (g Value us ws)))
    (hrel : ∀ {vs : List V} {us : List Value} {zs : List V} {ws : List Value}, Vals vs us → Vals zs ws → Vals (g V vs zs) (g Value us ws)) : KBinds K fd ps ks (g Value) (g V) :=
  ⟨fun s us ws _ hl => .of_eq (hto us ws hl), hrel⟩
section
variable {X : Cx} {c : Ct} {k : Nat} {f : Addr} {fd : FuncData} {ps ks : List Str} {φ : Fn} {x : Str} {p pos : Pos} {e : Expr} {es : List Expr} {kws : List Keyword} {fa fk : M (List D)} {g : Perm}
theorem fk_nil : PK X [] (tMs X.K c mNil) := ⟨fun pos pins s σ H Q I ⟨S, env, d, env', E, e1, kk⟩ => by
  cases e1
  exact pk_nil.run pos pins s σ H Q I (kk S H [] E (Same.refl _) .nil)⟩
theorem fk_cons {nm : Option Str} {kpos : Pos} {fe : M D} {fr : M (List D)} (he : FE X c e fe) (hr : PK X kws (tMs X.K c fr)) : PK X (⟨nm, e, kpos⟩ :: kws) (tMs X.K c (mCons fe fr)) := ⟨fun pos pins s σ H Q I ⟨S, env, d, env', E, e1, k⟩ => by
  unfold mCons at e1
  split at e1
  · cases e1
  · rename_i da ea qa
    split at e1
    · cases e1
    · rename_i db eb qb
      cases e1
      exact (pk_cons he hr).run pos pins s σ H Q I ⟨S, env, da, ea, E, qa, fun S1 H1 v1 E1 s1 r1 => ⟨S1, ea, db, _, E1, qb, fun S2 H2 v2 E2 s2 r2 => k S2 H2 _ E2 (s1.trans s2) (.cons (r1.mono s2) r2)⟩⟩⟩
theorem t_callK (hg : ∀ {S : Hp} {ds zs : List D} {vs us : List V}, RelDs X.K S ds vs → RelDs X.K S zs us → RelDs X.K S (g D ds zs) (g V vs us)) (σ : L2.St) (H : Hp) (Q : VK) (h : tM X.K c (mCallK φ (g D) fa fk) σ H Q) : tCallK (spF X.K φ) (g V) E0 (tMs X.K c fa) (tMs X.K c fk) σ H Q := by
  obtain ⟨S, env, d, env', E, e1, kk⟩ := h
  unfold mCallK at e1
  split at e1
  · rename_i ds e2 q
    split at e1
    · rename_i zs e3 q2
      split at e1
      · rename_i r e4 q3
        cases e1
        refine ⟨S, env, ds, _, E, q, fun S1 H1 vs E1 s1 r1 => ⟨S1, e2, zs, _, E1, q2, fun S2 H2 us E2 s2 r2 => ?_⟩⟩
        refine ⟨_, S2, _, _, _, ER.args E2.sub (hg (r1.mono s2) r2), q3, fun S3 H3 v E3 s3 r3 => ?_⟩
        exact kk S3 H3 v (E2.grow E3.s0 E3.sub E3.dom (fun b o z => E3.kep b o z fun _ z => by cases z) E3.frs) ((s1.trans s2).trans s3) r3
      · cases e1
    · cases e1
  · cases e1
/-- f(e, .., k = v, ..) -/
theorem f_callK (G : FnG X.prog X.w X.K X.mg X.base CX0 k f fd ps (spF X.K φ)) (gu : Gd X.A X.base) (room : Room k X.A) (gl : Gl X x) (hm : X.mg x = some (.ref f)) (kp : PySem.W.keepIn X.K (.ref f) = true) (kb : KBinds X.K fd ps ks (g Value) (g V))
    (hg : ∀ {S : Hp} {ds zs : List D} {vs us : List V}, RelDs X.K S ds vs → RelDs X.K S zs us → RelDs X.K S (g D ds zs) (g V vs us)) (ha : FA X c (e :: es) fa) (hk : PK X kws (tMs X.K c fk)) (n0 : (backToKw pos (keywordEach kws X.env)).all (·.1.isSome) = true := by rfl)
    (nk : (backToKw pos (keywordEach kws X.env)).filterMap (·.1) = ks := by rfl) (n1 : (x == ("__debug__" : Str)) = false := by decide) (n2 : starEach (e :: es) X.env = (false, eval e X.env) :: starEach es X.env := by rfl)
    (n3 : ((backTo pos (starEach (e :: es) X.env)).any (·.1) || (backToKw pos (keywordEach kws X.env)).any (·.1.isNone)) = false := by rfl) : FE X c (.Call (.Name x p) (e :: es) kws pos) (mCallK φ (g D) fa fk) :=
  (callGK G gu room gl hm kp kb pass0 ha hk n0 nk n1 n2 n3).weak (t_callK hg)
/-- f(k = v, ..) -/
theorem f_callK0 (G : FnG X.prog X.w X.K X.mg X.base CX0 k f fd ps (spF X.K φ)) (gu : Gd X.A X.base) (room : Room k X.A) (gl : Gl X x) (hm : X.mg x = some (.ref f)) (kp : PySem.W.keepIn X.K (.ref f) = true) (kb : KBinds X.K fd ps ks (g Value) (g V))
    (hg : ∀ {S : Hp} {ds zs : List D} {vs us : List V}, RelDs X.K S ds vs → RelDs X.K S zs us → RelDs X.K S (g D ds zs) (g V vs us)) (hk : PK X kws (tMs X.K c fk)) (n0 : (backToKw pos (keywordEach kws X.env)).all (·.1.isSome) = true := by rfl)
    (nk : (backToKw pos (keywordEach kws X.env)).filterMap (·.1) = ks := by rfl) (n1 : (x == ("__debug__" : Str)) = false := by decide)
    (n3 : ((backTo pos (starEach [] X.env)).any (·.1) || (backToKw pos (keywordEach kws X.env)).any (·.1.isNone)) = false := by rfl) : FE X c (.Call (.Name x p) [] kws pos) (mCallK φ (g D) mNil fk) := by
  constructor
  intro pins s σ H Q I h
  obtain ⟨S, env, ds, env', E, q, kk⟩ := t_callK (fa := mNil) hg σ H Q h
  cases q
  have h2 := kk S H [] E (Same.refl _) .nil
  apply wpAny_Call_Name_kw
  apply ld_glob I gl hm _ n1
  apply PySem.W.callWith_KW0 (h₀ := X.base) I.mod.kin kp n0 _ n3
  apply thn (hk.run pos pins s σ H _ I h2)
  rintro ws s2 ⟨zs, H2, J2, rz, q2⟩
  refine ⟨J2.kIn, ?_⟩
  rw [nk]
  have both : Vals (g V [] zs) (g Value [] ws) := kb.rel .nil rz
  have long : (g Value [] ws).length = ps.length := both.length.symm.trans (G.len _ _ _ _ q2)
  apply wpAny_call
  apply codeAny_mono (G.run X.A X.stack s2 H2 ⟨[], ks.zip ws⟩ _ _ Q E0 gu room J2.env0 (kb.to s2 [] ws J2.kIn long) both q2)
  intro r' s' q'
  have z := cr_in pass0 J2 q'
  cases r' with
  | error _ => exact z
  | ok fl => cases fl <;> first | exact z | exact False.elim z
end

/-! ## methods of one's own list -/
def sAppend (i : Nat) (fv : M D) : FS := fun e => match e[i]? with
  | some (.ow _ (.lst _)) => (match fv e with
    | some (d, e1) => (match e1[i]? with
      | some (.ow f (.lst ds)) => if ds.length < 1000000 then some (.nx (e1.set i (.ow f (.lst (ds ++ [d]))))) else none
      | _ => none)
    | none => none)
  | _ => none
/-- xs.pop() -/
def mPop (i : Nat) : M D := fun e => match e[i]? with
  | some (.ow f (.lst ds)) => (match ds[ds.length - 1]? with
    | some d => some (d, e.set i (.ow f (.lst ds.dropLast)))
    | none => none)
  | _ => none
theorem RelDs.dropLast {K : PySem.W.Frag} {S : Hp} {ds : List D} {vs : List V} (r : RelDs K S ds vs) : RelDs K S ds.dropLast vs.dropLast := by
  rw [List.dropLast_eq_take, List.dropLast_eq_take, r.length]
  exact r.take _
section
variable {X : Cx} {c : Ct} {e : Expr} {pos apos cpos px : Pos} {i : Nat} {x : Str} {fv : M D}
theorem big1000000 {n : Nat} (h : n < 1000000) : n < sizeLine := Nat.lt_of_lt_of_le h (by decide)
theorem fs_append (hi : PE X (.Name x px) (tVar i)) (hv : FE X c e fv) (hbase : attributeBase (.Name x px) "append" X.env (eval (.Name x px) X.env) = eval (.Name x px) X.env := by rfl)
    (hfew : ((backTo cpos (starEach [e] X.env)).all (fun x => !x.1) && (backToKw cpos (keywordEach [] X.env)).all (fun x => x.1.isSome) && decide (([e] : List Expr).length + ([] : List Keyword).length + (if ([] : List Keyword).isEmpty then 0 else 1) < 30)) = true := by rfl)
    (hline : (apos.endLine == cpos.line) = true := by rfl) (hs : starEach [e] X.env = (false, eval e X.env) :: starEach [] X.env := by rfl) (hpl : (backTo cpos (starEach ([] : List Expr) X.env)).any (·.1) = false := by rfl)
    (hsw : swapsWith (.Call (.Attribute (.Name x px) "append" apos) [e] [] cpos) none pos.line X.env = pure false := by rfl) : FSt X c (.Expr (.Call (.Attribute (.Name x px) "append" apos) [e] [] cpos) pos) (sAppend i fv) :=
  (ps_expr (pe_bm PySem.F.plainAttrs_list PySem.F.slot_list_append PySem.F.type_list_append (mt_append (X := X)) hi (pa_cons hv pa_nil hs) hbase hfew hline hs hpl) hsw).weak fun D' σ H ⟨S, env, o, E, e1, k⟩ => by
    unfold sAppend at e1
    split at e1
    · rename_i f0 ds0 q0
      split at e1
      · rename_i d e2 q
        split at e1
        · rename_i f ds q2
          split at e1
          · rename_i hl
            cases e1
            obtain ⟨p, a, ⟨vs0, hp0, _⟩, _, _⟩ := E.ow i f0 _ q0
            refine ⟨_, a, .inl ⟨rfl, vs0, .of hp0⟩, S, env, d, e2, E, q, fun S1 H1 v E1 s1 r1 => ?_⟩
            obtain ⟨p', a', ⟨vs, hp, rs⟩, z, w⟩ := E1.ow i f _ q2
            rw [a] at a'; cases a'
            refine ⟨p, vs, v, rfl, rfl, hp, by rw [← rs.length]; exact big1000000 hl, ?_⟩
            exact k S1 _ σ (E1.chg q2 a (fun b hb => upd_ne hb) ⟨_, upd_same, rs.append (.cons r1 .nil)⟩) s1
          · cases e1
        · cases e1
      · cases e1
    · cases e1
theorem f_pop (hi : PE X (.Name x px) (tVar i)) (hbase : attributeBase (.Name x px) "pop" X.env (eval (.Name x px) X.env) = eval (.Name x px) X.env := by rfl) (hline : (apos.endLine == cpos.line) = true := by rfl) : FE X c (.Call (.Attribute (.Name x px) "pop" apos) [] [] cpos) (mPop i) :=
  (pe_bm0 PySem.F.plainAttrs_list PySem.F.slot_list_pop PySem.F.type_list_pop (mt_pop (X := X)) hi hbase hline).weak fun σ H Q ⟨S, env, d, env', E, e1, k⟩ => by
    unfold mPop at e1
    split at e1
    · rename_i f ds q
      split at e1
      · rename_i d' qd
        cases e1
        obtain ⟨p, a, ⟨vs, hp, rs⟩, z, w⟩ := E.ow i f _ q
        obtain ⟨v, hv, rv⟩ := rs.get qd
        refine ⟨_, a, .inl ⟨rfl, vs, .of hp⟩, p, vs, v, rfl, rfl, hp, by rw [← rs.length]; exact hv, ?_⟩
        exact k S _ v (E.chg q a (fun b hb => upd_ne hb) ⟨_, upd_same, rs.dropLast⟩) (Same.refl _) rv
      · cases e1
    · cases e1
end

/-! ## a new object that is let go at once -/
theorem ER.adopt {K : PySem.W.Frag} {L : Nat → Option Addr} {S0 H0 S H : Hp} {σ : L2.St} {env : En} {p : Addr} {d : D} (E : ER K L S0 H0 S H σ env) (o : OwnAt K S H d p) (hS : S p = none) (hH : H0 p = none) (hn : ∀ (j : Nat) (f : Bool) (e : D), env[j]? = some (.ow f e) → σ[j]? ≠ some (some (.ref p))) :
    ∃ S', ER K L S0 H0 S' H σ env ∧ Same S S' ∧ RelD K S' d (.ref p) := by
  cases eo : H p with
  | none => exact absurd eo o.there
  | some ob =>
    have e2 : Same S (upd S p ob) := same_upd hS
    refine ⟨upd S p ob, ⟨fun b u q => ?_, E.len, fun i d q => ?_, fun i f d q => ?_, E.dis, fun b u q => e2 b u (E.s0 b u q), E.dom, E.kep, fun b q => ?_, E.lnt, E.lsd⟩, e2, ?_⟩
    · by_cases hb : b = p
      · subst hb; rw [upd_same] at q; rw [eo]; exact q
      · rw [upd_ne hb] at q; exact E.sub b u q
    · obtain ⟨v, a, r⟩ := E.sh i d q
      exact ⟨v, a, r.mono e2⟩
    · obtain ⟨a, x, y, z, w⟩ := E.ow i f d q
      exact ⟨a, x, y.mono e2 rfl, by rw [upd_ne (fun z => by subst z; exact hn i f d q x)]; exact z, w⟩
    · by_cases hb : b = p
      · subst hb; exact .inr hH
      · rw [upd_ne hb] at q; exact E.frs b q
    · cases d <;> first | exact o.elim | skip
      · obtain ⟨vs, q, r⟩ := o
        rw [eo] at q; cases q
        exact .lst upd_same (r.mono e2)
      · obtain ⟨vs, q, r⟩ := o
        rw [eo] at q; cases q
        exact .dic upd_same (r.mono e2)
      · obtain ⟨dx, vs, q, r⟩ := o
        rw [eo] at q; cases q
        exact .obj upd_same (r.mono e2)
theorem fo_sh {X : Cx} {c : Ct} {e : Expr} {f : M D} (h : FO X c e f) : FE X c e f := h.weak fun σ H Q ⟨S, env, d, env', E, e1, k⟩ => ⟨S, env, d, env', E, e1, fun S1 H1 p E1 s1 o z n fr => by
  obtain ⟨S2, E2, s2, r⟩ := ER.adopt E1 o z n fr
  exact k S2 H1 _ E2 (s1.trans s2) r⟩
end FL

set_option Elab.async false
set_option linter.all false
set_option maxRecDepth 100000
set_option maxHeartbeats 2000000
namespace FL
open PySem PySem.Spec PyProof.Rows L2
/-! ## for the reckoning -/
theorem cMul_ok {a b : Int} (k j : Nat) (h1 : Builtin.Int.intBits a ≤ k) (h2 : Builtin.Int.intBits b ≤ j) (h : k + j ≤ 134217728) : cMul a b = true := chk_yes (by omega)
theorem cPow_ok {a : Int} {n : Int} (k N : Nat) (h1 : Builtin.Int.intBits a ≤ k) (h0 : 0 ≤ n) (h2 : n ≤ N) (hk : k * N ≤ 134217728) : cPow a n = true := by
  refine chk_yes ⟨h0, ?_⟩
  have h3 : (Builtin.Int.intBits a : Int) * n ≤ (k : Int) * (N : Int) := Int.mul_le_mul (by omega) h2 h0 (by omega)
  have h4 : (k : Int) * (N : Int) = ((k * N : Nat) : Int) := by push_cast; rfl
  have h5 : (2 : Int) ^ 27 = 134217728 := by decide
  rw [h5]
  omega
theorem b64 {a : Int} (h : a.natAbs < 18446744073709551616) : Builtin.Int.intBits a ≤ 64 := PyProof.Rows.intBits_le (k := 64) h
theorem sq_bitsK {e m : Int} {k : Nat} (hk : 31 ≤ k) (he : Builtin.Int.intBits e ≤ k) (h0 : 0 ≤ m) (h1 : m < 4503599627370496) : Builtin.Int.intBits (m + e * e + 31) ≤ (k + k) + 1 := by
  have a1 : e.natAbs < 2 ^ k := Nat.lt_of_lt_of_le (PyProof.Rows.natAbs_lt_pow_bits e) (Nat.pow_le_pow_right (by decide) he)
  have a2 : e.natAbs * e.natAbs < 2 ^ k * 2 ^ k := Nat.mul_lt_mul'' a1 a1
  rw [← Nat.pow_add] at a2
  have a3 : (4611686018427387904 : Nat) ≤ 2 ^ (k + k) := by
    have : (4611686018427387904 : Nat) = 2 ^ 62 := by decide
    rw [this]
    exact Nat.pow_le_pow_right (by decide) (by omega)
  have a4 : (e * e).natAbs = e.natAbs * e.natAbs := Int.natAbs_mul e e
  refine PyProof.Rows.intBits_le ?_
  rw [Nat.pow_succ]
  generalize 2 ^ (k + k) = B at a2 a3 ⊢
  omega
theorem sq_bits {e m : Int} (he : Builtin.Int.intBits e ≤ 1048576) (h0 : 0 ≤ m) (h1 : m < 4503599627370496) : Builtin.Int.intBits (m + e * e + 31) ≤ 2097153 := sq_bitsK (by decide) he h0 h1
theorem atI_of {α : Type} {xs : List α} {r : Int} (h0 : 0 ≤ r) (h1 : r < xs.length) : ∃ x, atI xs r = some x ∧ x ∈ xs := by
  have hl : r.toNat < xs.length := by omega
  refine ⟨xs[r.toNat], ?_, List.getElem_mem hl⟩
  unfold atI ixN
  rw [if_pos h0, if_pos h1]
  exact List.getElem?_eq_getElem hl
theorem loop_nx {set : FG} {body : FS} (I : En → Prop) : ∀ (ds : List D), (∀ d ∈ ds, ∀ e, I e → ∃ e1 e2, set d e = some e1 ∧ body e1 = some (.nx e2) ∧ I e2) → ∀ e, I e → ∃ e', loopF set body ds e = some (.nx e') ∧ I e'
  | [], _, e, h => ⟨e, rfl, h⟩
  | d :: ds, st, e, h => by
    obtain ⟨e1, e2, q1, q2, h2⟩ := st d List.mem_cons_self e h
    obtain ⟨e3, q3, h3⟩ := loop_nx I ds (fun d hd => st d (List.mem_cons_of_mem _ hd)) e2 h2
    refine ⟨e3, ?_, h3⟩
    unfold loopF
    rw [q1]
    show (match body e1 with
      | some (.nx e2) => loopF set body ds e2
      | some (.ct e2) => loopF set body ds e2
      | some (.bk e2) => some (.nx e2)
      | some (.rt d e2) => some (.rt d e2)
      | some (.ro d e2) => some (.ro d e2)
      | none => none) = _
    rw [q2]
    exact q3
theorem mem_upTo {n : Nat} {d : D} (h : d ∈ upTo n) : ∃ i : Nat, i < n ∧ d = .int i := by
  unfold upTo at h
  obtain ⟨i, hi, rfl⟩ := List.mem_map.mp h
  exact ⟨i, by simpa using hi, rfl⟩
/-- a sack of draws -/
def Sack (d m : Int) : D := .dic [(.inr "digits", .int d), (.inr "mixed", .int m)]
theorem kne : ¬ (Str.ofString "digits" = Str.ofString "mixed") := by decide +kernel
theorem kne' : ¬ (Str.ofString "mixed" = Str.ofString "digits") := by decide +kernel
theorem getD1 (d m : Int) : getK [(.inr "digits", .int d), (.inr "mixed", .int m)] (.inr "digits") = some (.int d) := by
  simp [getK]
theorem getM1 (d m : Int) : getK [(.inr "digits", .int d), (.inr "mixed", .int m)] (.inr "mixed") = some (.int m) := by
  simp [getK, kne]
theorem putD1 (d m : Int) (x : D) : putKD [(.inr "digits", .int d), (.inr "mixed", .int m)] (.inr "digits") x = [(.inr "digits", x), (.inr "mixed", .int m)] := by
  simp [putKD, kne']
theorem putM1 (d m : Int) (x : D) : putKD [(.inr "digits", .int d), (.inr "mixed", .int m)] (.inr "mixed") x = [(.inr "digits", .int d), (.inr "mixed", x)] := by
  simp [putKD, kne]
/-- what is known of a sack -/
structure SackOk (d m : Int) : Prop where
  d0 : 0 ≤ d
  m0 : 0 ≤ m
  m1 : m < 4294967296
/-- a def that draws: a number below the size -/
def Draws (φ : Fn) : Prop := ∀ (d m s : Int), SackOk d m → 0 < s → s < 1073741824 → ∃ r d' m', φ [.ow false (Sack d m), .sh (.int s)] = some (.int r, [.ow false (Sack d' m'), .un]) ∧ 0 ≤ r ∧ r < s ∧ SackOk d' m'
/-- a def that chooses an item -/
def Chooses (φ : Fn) : Prop := ∀ (d m : Int) (xs : List D), SackOk d m → xs ≠ [] → xs.length < 1000000 → ∃ x d' m', φ [.ow false (Sack d m), .sh (.lst xs)] = some (x, [.ow false (Sack d' m'), .un]) ∧ x ∈ xs ∧ SackOk d' m'
/-- a def that makes a sack out of the script -/
def MakesSack (φ : Fn) : Prop := ∀ (ns : List Int) (st : Int), (∀ z ∈ ns, Builtin.Int.intBits z ≤ 1048576) → 0 ≤ st → st ≤ 100 → ∃ d m e', φ [.sh (.scr ns), .sh (.int st)] = some (Sack d m, e') ∧ SackOk d m
end FL
namespace FL
theorem lentS_un : lentS .un = false := rfl
theorem lentS_sh {d : D} : lentS (.sh d) = false := rfl
theorem lentS_owt {d : D} : lentS (.ow true d) = false := rfl
end FL

set_option Elab.async false
set_option linter.all false
set_option maxRecDepth 100000
set_option maxHeartbeats 2000000
namespace FL
open PySem PySem.Spec PyProof.Rows L2
/-! ## what may be shown -/
mutual
def smD : D → Prop
  | .int i => i.natAbs < 10 ^ 60
  | .str x => ∀ c ∈ x.cps.toList, c < 16 ^ 8
  | .lst xs => smDs xs
  | .tup xs => smDs xs
  | .dic xs => xs = []
  | .obj _ _ => False
  | .scr _ => False
  | .kls _ => False
  | .non => True
  | .bl _ => True
def smDs : List D → Prop
  | [] => True
  | x :: xs => smD x ∧ smDs xs
end
mutual
def bkD : D → Nat
  | .str x => x.cps.size
  | .lst xs => bkDs xs
  | .tup xs => bkDs xs
  | _ => 0
def bkDs : List D → Nat
  | [] => 0
  | x :: xs => bkD x + 1 + bkDs xs
end
mutual
def dpD : D → Nat
  | .lst xs => dpDs xs + 1
  | .tup xs => dpDs xs + 1
  | .dic _ => 1
  | _ => 0
def dpDs : List D → Nat
  | [] => 0
  | x :: xs => max (dpD x) (dpDs xs)
end
mutual
def noDic : D → Bool
  | .lst xs => noDics xs
  | .tup xs => noDics xs
  | .dic _ => false
  | _ => true
def noDics : List D → Bool
  | [] => true
  | x :: xs => noDic x && noDics xs
end
structure PShow (d : D) (p : PyData) : Prop where
  t : toP d = some p
  sh : p.showable = true
  lv : p.leavesShort 64 = true
  bk : p.bulk = bkD d
  dp : p.depth = dpD d
  nd : noDic d = true → p.hasDict = false
structure PShows (d : List D) (p : List PyData) : Prop where
  t : toPs d = some p
  sh : PyData.showableAll p = true
  lv : PyData.leavesShortAll 64 p = true
  bk : PyData.bulkAll p = bkDs d
  dp : PyData.depthAll p = dpDs d
  nd : noDics d = true → PyData.hasDictAll p = false
mutual
theorem show_of : ∀ d : D, smD d → ∃ p, PShow d p
  | .non, _ => ⟨.none, rfl, rfl, rfl, rfl, rfl, fun _ => rfl⟩
  | .bl b, _ => ⟨.bool b, rfl, rfl, rfl, rfl, rfl, fun _ => rfl⟩
  | .int i, h => by
    have h' : i.natAbs < 10 ^ 60 := h
    refine ⟨.int i, rfl, ?_, ?_, rfl, rfl, fun _ => rfl⟩
    · have : i.natAbs < 2 ^ 1920 := Nat.lt_of_lt_of_le h' (Nat.le_trans (by decide : 10 ^ 60 ≤ 2 ^ 200) (Nat.pow_le_pow_right (by decide) (by decide)))
      simp only [PyData.showable, decide_eq_true_eq]
      exact log2_small this
    · have e : (toString i).length ≤ 60 + 1 := int_text_length_le10 (k := 60) (by decide) h'
      simp only [PyData.leavesShort, decide_eq_true_eq]
      show (Str.ofString (toString i)).length ≤ 64
      rw [PySem.ofString_length]
      omega
  | .str x, h => ⟨.str x, rfl, rfl, by simp only [PyData.leavesShort, List.all_eq_true, decide_eq_true_eq]; exact h, rfl, rfl, fun _ => rfl⟩
  | .lst xs, h => by
    obtain ⟨ps, t, a, b, c, d, e⟩ := shows_of xs h
    exact ⟨.list ps, by simp only [toP, t], by simpa only [PyData.showable] using a, by simpa only [PyData.leavesShort] using b, by simpa only [PyData.bulk, bkD] using c, by simp only [PyData.depth, dpD, d], fun z => by simp only [PyData.hasDict]; exact e (by simpa only [noDic] using z)⟩
  | .tup xs, h => by
    obtain ⟨ps, t, a, b, c, d, e⟩ := shows_of xs h
    exact ⟨.tuple ps, by simp only [toP, t], by simpa only [PyData.showable] using a, by simpa only [PyData.leavesShort] using b, by simpa only [PyData.bulk, bkD] using c, by simp only [PyData.depth, dpD, d], fun z => by simp only [PyData.hasDict]; exact e (by simpa only [noDic] using z)⟩
  | .dic xs, h => by
    have h' : xs = [] := h
    subst h'
    exact ⟨.dict [], rfl, rfl, rfl, rfl, rfl, fun z => by cases z⟩
  | .obj _ _, h => h.elim
  | .scr _, h => h.elim
  | .kls _, h => h.elim
theorem shows_of : ∀ d : List D, smDs d → ∃ p, PShows d p
  | [], _ => ⟨[], rfl, rfl, rfl, rfl, rfl, fun _ => rfl⟩
  | x :: xs, h => by
    obtain ⟨h1, h2⟩ := h
    obtain ⟨p, t, a, b, c, d, e⟩ := show_of x h1
    obtain ⟨ps, t', a', b', c', d', e'⟩ := shows_of xs h2
    refine ⟨p :: ps, by simp only [toPs, t, t'], by simp only [PyData.showableAll, a, a', Bool.and_self], by simp only [PyData.leavesShortAll, b, b', Bool.and_self], by simp only [PyData.bulkAll, bkDs, c, c'], by simp only [PyData.depthAll, dpDs, d, d'], fun z => ?_⟩
    have z' : noDic x = true ∧ noDics xs = true := by simpa only [noDics, Bool.and_eq_true] using z
    simp only [PyData.hasDictAll, e z'.1, e' z'.2, Bool.or_self]
end
/-- it may be shown -/
structure Rp (d : D) : Prop where
  sm : smD d
  bk : bkD d ≤ 100000
  dp : dpD d ≤ 60
noncomputable def shT (d : D) : Str := match toP d with
  | some p => p.shown
  | none => Str.empty
theorem rp_ok {d : D} (h : Rp d) : gRepr d = some (.str (shT d)) := by
  obtain ⟨p, t, a, b, c, e, f⟩ := show_of d h.sm
  have ok : reprOk d p = true := by
    refine chk_yes ⟨a, by rw [e]; exact h.dp, ?_⟩
    have k := PyData.shown_le_bulk 64 (by decide) p b
    rw [c] at k
    have := h.bk
    have z : (6606592 : Nat) ≤ sizeLine := by decide
    omega
  unfold gRepr shT
  rw [t]
  show (bif reprOk d p then some (shownD p) else none) = _
  rw [ok]
  rfl
theorem ne_same (s : Str) : gNe (.str s) (.str s) = some (.bl false) := by
  show some (D.bl (!decide (s = s))) = _
  rw [decide_eq_true rfl]
  rfl
theorem eq_same (s : Str) : gEq (.str s) (.str s) = some (.bl true) := by
  show some (D.bl (decide (s = s))) = _
  rw [decide_eq_true rfl]
end FL
namespace FL
open PySem PySem.Spec PyProof.Rows L2
theorem smI {i : Int} (h0 : -1000000000000000000 < i) (h1 : i < 1000000000000000000) : i.natAbs < 10 ^ 60 := Nat.lt_of_lt_of_le (by omega : i.natAbs < 1000000000000000000) (by decide)
theorem eqI (i j : Int) : gEq (.int i) (.int j) = some (.bl (decide (i = j))) := by
  show gEqD (.int i) (.int j) = _
  unfold gEqD
  show (bif eqOk (.int i) (.int j) then some (D.bl (PyData.eqv (.int i) (.int j))) else none) = _
  have e : eqOk (.int i) (.int j) = true := chk_yes ⟨rfl, rfl⟩
  rw [e]
  show some (D.bl (PyData.eqv (.int i) (.int j))) = _
  rfl
theorem neI (i j : Int) : gNe (.int i) (.int j) = some (.bl (!decide (i = j))) := by
  show gNeD (.int i) (.int j) = _
  unfold gNeD
  show (bif eqOk (.int i) (.int j) then some (D.bl (!PyData.eqv (.int i) (.int j))) else none) = _
  have e : eqOk (.int i) (.int j) = true := chk_yes ⟨rfl, rfl⟩
  rw [e]
  show some (D.bl (!PyData.eqv (.int i) (.int j))) = _
  rfl
end FL

set_option Elab.async false
set_option linter.all false
set_option maxRecDepth 100000
set_option maxHeartbeats 2000000
namespace FL
open PySem PySem.Spec PyProof.Rows L2
/-! ## comprehensions -/
def isOw : Sl → Bool
  | .ow _ _ => true
  | _ => false
def wipeE : List Nat → En → En
  | [], e => e
  | i :: r, e => (wipeE r e).set i .un
/-- the block's own slots are nobody's objects -/
def freeE (vs : List Nat) (e : En) : Bool := vs.all fun i => match e[i]? with
  | some s => !isOw s
  | none => false
def backCS : Sl → Sl → Sl
  | .ow f _, .ow _ d => .ow f d
  | s, _ => s
def backC (e e2 : En) : En := List.zipWith backCS e e2
/-- a test, or none -/
def mYes : M Bool := fun e => some (true, e)
def compF (vs : List Nat) (set : FG) (t : M Bool) (el : M D) : List D → En → Option (List D × En)
  | [], e => some ([], e)
  | d :: r, e => bif freeE vs e then (match set d (wipeE vs (lend e)) with
    | some e1 => (match t e1 with
      | some (b, e2) => bif b then (match el e2 with
          | some (x, e3) => (match compF vs set t el r (backC e e3) with
            | some (xs, e4) => some (x :: xs, e4)
            | none => none)
          | none => none) else compF vs set t el r (backC e e2)
      | none => none)
    | none => none) else none
def cLen (n : Nat) : Bool := decide (n ≤ 1000000)
def mCompL (f : M D) (set : FG) (t : M Bool) (el : M D) (vs : List Nat) : M D := fun e => match f e with
  | some (d, e1) => (match itemsD d with
    | some ds => (match compF vs set t el ds e1 with
      | some (xs, e2) => bif cLen xs.length then some (.lst xs, e2) else none
      | none => none)
    | none => none)
  | none => none
def mCompR (f : M (List D)) (set : FG) (t : M Bool) (el : M D) (vs : List Nat) : M D := fun e => match f e with
  | some ([.int j], e1) => bif rgOk j then (match compF vs set t el (upTo j.toNat) e1 with
      | some (xs, e2) => bif cLen xs.length then some (.lst xs, e2) else none
      | none => none) else none
  | _ => none
section
variable {K : PySem.W.Frag} {L : Nat → Option Addr} {S0 H0 S H S' H' : Hp} {σ σ2 : L2.St} {env e2 : En}
theorem ER.wipe1 (E : ER K L S0 H0 S H σ env) {i : Nat} (hL : ∀ p, L i ≠ some p) : ER K L S0 H0 S H (σ.set i none) (env.set i .un) := by
  have slot : ∀ (j : Nat) (s : Sl), (env.set i Sl.un)[j]? = some s → s = .un ∨ (j ≠ i ∧ env[j]? = some s) := fun j s q => by
    by_cases hj : j = i
    · subst hj
      rw [List.getElem?_set] at q
      rw [if_pos rfl] at q
      split at q <;> cases q
      exact .inl rfl
    · rw [List.getElem?_set_ne (Ne.symm hj)] at q; exact .inr ⟨hj, q⟩
  refine ⟨E.sub, by simp [E.len], fun j d q => ?_, fun j f d q => ?_, fun j k f g d e p hjk q1 q2 q3 => ?_, E.s0, E.dom, E.kep, E.frs, fun j p q => ?_, E.lsd⟩
  · rcases slot j _ q with q | ⟨hj, q⟩
    · cases q
    · rw [List.getElem?_set_ne (Ne.symm hj)]; exact E.sh j d q
  · rcases slot j _ q with q | ⟨hj, q⟩
    · cases q
    · rw [List.getElem?_set_ne (Ne.symm hj)]; exact E.ow j f d q
  · rcases slot j _ q1 with q1 | ⟨h1, q1⟩
    · cases q1
    · rcases slot k _ q2 with q2 | ⟨h2, q2⟩
      · cases q2
      · rw [List.getElem?_set_ne (Ne.symm h1)] at q3
        rw [List.getElem?_set_ne (Ne.symm h2)]
        exact E.dis j k f g d e p hjk q1 q2 q3
  · have hj : j ≠ i := fun z => by subst z; exact hL p q
    rw [List.getElem?_set_ne (Ne.symm hj), List.getElem?_set_ne (Ne.symm hj)]
    exact E.lnt j p q
theorem ER.wipes : ∀ (vs : List Nat) {σ : L2.St} {env : En}, ER K L S0 H0 S H σ env → (∀ i ∈ vs, ∀ p, L i ≠ some p) → ER K L S0 H0 S H (wipe σ vs) (wipeE vs env)
  | [], _, _, E, _ => E
  | i :: r, σ, env, E, h => (ER.wipes r E fun j hj => h j (List.mem_cons_of_mem _ hj)).wipe1 (h i List.mem_cons_self)
theorem lentOf_free {vs : List Nat} (h : freeE vs env = true) : ∀ i ∈ vs, ∀ p, lentOf σ env i ≠ some p := by
  intro i hi p z
  obtain ⟨f, d, a, _⟩ := lentOf_some z
  have := List.all_eq_true.mp h i hi
  rw [a] at this
  simp [isOw] at this
theorem ER.unbaseC (E : ER K L S0 H0 S H σ env) (E2 : ER K (lentOf σ env) S H S' H' σ2 e2) (hl : env.length = e2.length) : ER K L S0 H0 S' H' σ (backC env e2) := by
  have h0 : ∀ b, H b = none → H0 b = none := fun b q => by
    cases e : H0 b with
    | none => rfl
    | some o => exact absurd q (E.dom b (by rw [e]; exact fun z => nomatch z))
  have get : ∀ (i : Nat) (s : Sl), (backC env e2)[i]? = some s → ∃ a b, env[i]? = some a ∧ e2[i]? = some b ∧ s = backCS a b := fun i s h => by
    unfold backC at h
    rw [List.getElem?_zipWith] at h
    cases ea : env[i]? with
    | none => rw [ea] at h; cases h
    | some a =>
      cases eb : e2[i]? with
      | none => rw [ea, eb] at h; cases h
      | some b => rw [ea, eb] at h; cases h; exact ⟨a, b, rfl, rfl, rfl⟩
  have own : ∀ (i : Nat) (f : Bool) (d : D), (backC env e2)[i]? = some (.ow f d) → ∃ p d0, env[i]? = some (.ow f d0) ∧ σ[i]? = some (some (.ref p)) ∧ σ2[i]? = some (some (.ref p)) ∧ e2[i]? = some (.ow false d) := fun i f d q => by
    obtain ⟨a, b, ha, hb, e⟩ := get i _ q
    cases a with
    | un => cases e
    | sh _ => cases e
    | ow f0 d0 =>
      obtain ⟨p, x, y, z, w⟩ := E.ow i f0 d0 ha
      have hl' : lentOf σ env i = some p := by unfold lentOf; rw [ha, x]
      obtain ⟨x2, d2, b2⟩ := E2.lnt i p hl'
      rw [b2] at hb; cases hb
      cases e
      exact ⟨p, d0, ha, x, x2, b2⟩
  refine ⟨E2.sub, by unfold backC; rw [List.length_zipWith, ← hl, Nat.min_self]; exact E.len, fun i d q => ?_, fun i f d q => ?_, fun i j f g d e p hij q1 q2 q3 => ?_, E.s0.trans E2.s0, fun b q => E2.dom b (E.dom b q), fun b o q hn => ?_, fun b q => ?_, fun i p q => ?_, E.lsd⟩
  · obtain ⟨a, b, ha, hb, e⟩ := get i _ q
    cases a with
    | un => cases e
    | sh d' =>
      cases e
      obtain ⟨v, x, r⟩ := E.sh i d ha
      exact ⟨v, x, r.mono E2.s0⟩
    | ow f0 d0 => cases b <;> cases e
  · obtain ⟨p, d0, ha, x, x2, b2⟩ := own i f d q
    obtain ⟨p', x', y', z', w'⟩ := E2.ow i false d b2
    rw [x2] at x'; cases x'
    obtain ⟨p'', x'', _, _, w''⟩ := E.ow i f d0 ha
    rw [x] at x''; cases x''
    exact ⟨p, x, y', z', w''⟩
  · obtain ⟨p1, d1, ha1, x1, y1, b1⟩ := own i f d q1
    obtain ⟨p2, d2, ha2, x2, y2, b2⟩ := own j g e q2
    exact E.dis i j f g d1 d2 p hij ha1 ha2 q3
  · refine E2.kep b o (E.kep b o q hn) fun i z => ?_
    obtain ⟨f, d, a, x⟩ := lentOf_some z
    obtain ⟨p', x', _, _, w⟩ := E.ow i f d a
    rw [x] at x'; cases x'
    cases f with
    | true => rw [if_pos rfl] at w; rw [w] at q; cases q
    | false => rw [if_neg (by decide)] at w; exact hn i w
  · rcases E2.frs b q with z | z
    · exact E.frs b z
    · exact .inr (h0 b z)
  · obtain ⟨x, d, a⟩ := E.lnt i p q
    refine ⟨x, ?_⟩
    have hl' : lentOf σ env i = some p := by unfold lentOf; rw [a, x]
    obtain ⟨_, d', b⟩ := E2.lnt i p hl'
    refine ⟨d', ?_⟩
    unfold backC
    rw [List.getElem?_zipWith, a, b]
    rfl
/-- an object that is nobody's yet is changed -/
theorem ER.side (E : ER K L S0 H0 S H σ env) {p : Addr} {o : HO} (hS : S p = none) (h0 : H0 p = none) (hn : ∀ (j : Nat) (f : Bool) (e : D), env[j]? = some (.ow f e) → σ[j]? ≠ some (some (.ref p))) : ER K L S0 H0 S (upd H p o) σ env := by
  refine ⟨fun b u q => ?_, E.len, E.sh, fun i f d q => ?_, E.dis, E.s0, fun b q => ?_, fun b u q hl => ?_, E.frs, E.lnt, E.lsd⟩
  · rw [upd_ne (fun z => by subst z; rw [hS] at q; cases q)]; exact E.sub b u q
  · obtain ⟨a, x, y, z, w⟩ := E.ow i f d q
    exact ⟨a, x, y.mono (Same.refl _) (upd_ne fun z => by subst z; exact hn i f d q x), z, w⟩
  · by_cases hb : b = p
    · subst hb; exact absurd h0 q
    · rw [upd_ne hb]; exact E.dom b q
  · rw [upd_ne (fun z => by subst z; rw [h0] at q; cases q)]; exact E.kep b u q hl
end
theorem wipeE_len : ∀ (vs : List Nat) (e : En), (wipeE vs e).length = e.length
  | [], _ => rfl
  | i :: r, e => by
    show ((wipeE r e).set i .un).length = _
    rw [List.length_set, wipeE_len r]
theorem wipe_comm {σ : L2.St} {i : Nat} {x : Option V} : ∀ {vs : List Nat}, i ∉ vs → wipe (σ.set i x) vs = (wipe σ vs).set i x
  | [], _ => rfl
  | j :: r, h => by
    have hij : i ≠ j := fun z => h (by subst z; exact List.mem_cons_self)
    show (wipe (σ.set i x) r).set j none = ((wipe σ r).set j none).set i x
    rw [wipe_comm fun z => h (List.mem_cons_of_mem _ z), List.set_comm _ _ hij]
theorem wipe_set {σ : L2.St} {i : Nat} {x : Option V} : ∀ {vs : List Nat}, i ∈ vs → wipe (σ.set i x) vs = wipe σ vs
  | j :: r, h => by
    show (wipe (σ.set i x) r).set j none = (wipe σ r).set j none
    by_cases hr : i ∈ r
    · rw [wipe_set hr]
    · rcases List.mem_cons.mp h with z | z
      · subst z
        rw [wipe_comm hr, List.set_set]
      · exact absurd z hr
theorem wipe_self {σ : L2.St} : ∀ {us vs : List Nat}, (∀ i ∈ us, i ∈ vs) → wipe (wipe σ us) vs = wipe σ vs
  | [], _, _ => rfl
  | i :: r, vs, h => by
    show wipe ((wipe σ r).set i none) vs = _
    rw [wipe_set (h i List.mem_cons_self), wipe_self fun j hj => h j (List.mem_cons_of_mem _ hj)]
/-! ### the target's slots -/
/-- what a target does to the slots, by values: it changes none but vs -/
def TgOk (X : Cx) (vs : List Nat) (tg : Expr) (set : FG) (g : TG) : Prop := PG X tg g ∧ ∀ (c : Ct) (S H : Hp) (σ : L2.St) (env e' : En) (d : D) (v : V) (Q : L2.St → Hp → Prop), Er X.K c S H σ env → RelD X.K S d v → set d env = some e' →
  (∀ σ', Er X.K c S H σ' e' → wipe σ' vs = wipe σ vs → Q σ' H) → g v σ H Q
section
variable {X : Cx} {pos : Pos} {vs : List Nat}
theorem tg_name {i : Nat} {x : Str} (h : PG X (.Name x pos) (gName i)) (hi : i ∈ vs) : TgOk X vs (.Name x pos) (gSet i) (gName i) :=
  ⟨h, fun c S H σ env e' d v Q E r q k => k _ (gSet_ok E q r) (wipe_set hi)⟩
def gNames : List Nat → TGs
  | [] => gNil
  | i :: r => gCons (gName i) (gNames r)
theorem gNames_ok {K : PySem.W.Frag} {c : Ct} {S H : Hp} {Q : L2.St → Hp → Prop} : ∀ (is : List Nat) (ds : List D) (us : List V) (σ : L2.St) (env e' : En), (∀ i ∈ is, i ∈ vs) → Er K c S H σ env → RelDs K S ds us → gSets (is.map gSet) ds env = some e' →
    (∀ σ', Er K c S H σ' e' → wipe σ' vs = wipe σ vs → Q σ' H) → gNames is us σ H Q
  | [], [], us, σ, env, e', _, E, rs, q, k => by
    cases rs
    cases q
    exact ⟨rfl, k σ E rfl⟩
  | [], _ :: _, _, _, _, _, _, _, _, q, _ => by cases q
  | _ :: _, [], _, _, _, _, _, _, _, q, _ => by cases q
  | i :: is, d :: ds, us, σ, env, e', hv, E, rs, q, k => by
    cases rs with
    | cons r1 rs =>
      have q' : (match gSet i d env with
        | some e1 => gSets (is.map gSet) ds e1
        | none => none) = some e' := q
      split at q'
      · rename_i e1 q1
        refine ⟨_, _, rfl, ?_⟩
        refine gNames_ok is ds _ _ e1 e' (fun j hj => hv j (List.mem_cons_of_mem _ hj)) (gSet_ok E q1 r1) rs q' fun σ' E' w => k σ' E' ?_
        rw [w, wipe_set (hv i List.mem_cons_self)]
      · cases q'
theorem tg_tup {es : List Expr} {is : List Nat} {k n : Nat} (hc : X.calm = true) (h : PGs X es (gNames is)) (hl : is.length = n) (hi : ∀ i ∈ is, i ∈ vs) (hn : (assignEach es X.env).length = n := by rfl) (hst : (assignEach es X.env).findIdx? (·.1) = none := by rfl) :
    TgOk X vs (.Tuple es k pos) (gUn (is.map gSet)) (gTup X.K n (gNames is)) :=
  ⟨pg_tup hc h hn hst, fun c S H σ env e' d v Q E r q kk => by
    unfold gUn at q
    split at q
    · rename_i ds
      cases r with
      | tup ht rs =>
        refine ⟨_, _, rfl, sqT_same E.sub ht.sq, ?_, gNames_ok is ds _ σ env e' hi E rs q kk⟩
        rw [← rs.length, ← hl, gSets_len q, List.length_map]
    · cases q⟩
end
/-! ### the tests, the element: over any lent slots -/
def eT (K : PySem.W.Frag) (f : M Bool) : TT := fun σ H Q => ∃ c, tMT K c f σ H Q
def eE (K : PySem.W.Frag) (f : M D) : TE := fun σ H Q => ∃ c, tM K c f σ H Q
theorem eE_ok {X : Cx} {e : Expr} {f : M D} (h : ∀ c, FE X c e f) : PE X e (eE X.K f) := ⟨fun pins s σ H Q I ⟨c, q⟩ => (h c).run pins s σ H Q I q⟩
theorem eT_one {X : Cx} {e : Expr} {f : M Bool} (h : ∀ c, FT X c e f) : PTs X [e] (eT X.K f) := pts_one ⟨fun pins s σ H Q I ⟨c, q⟩ => (h c).run pins s σ H Q I q⟩
theorem eT_nil {X : Cx} : PTs X [] (eT X.K mYes) := ⟨fun pins s σ H Q I ⟨c, S, env, b, env', E, q, k⟩ => by
  cases q
  exact pts_nil.run pins s σ H Q I (k S H E (Same.refl _))⟩
/-- the comprehension's state at a turn -/
structure CS (K : PySem.W.Frag) (c : Ct) (S1 : Hp) (σ : L2.St) (Dd : Addr) (S H : Hp) (e : En) (xs : List D) (acc : List V) : Prop where
  E : Er K c S H σ e
  s : Same S1 S
  d : S Dd = none
  d0 : c.H0 Dd = none
  fr : ∀ (j : Nat) (f : Bool) (x : D), e[j]? = some (.ow f x) → σ[j]? ≠ some (some (.ref Dd))
  h : H Dd = some (.lst acc)
  r : RelDs K S xs acc
section
variable {K : PySem.W.Frag} {c : Ct} {S1 S H : Hp} {σ : L2.St} {Dd : Addr} {e : En} {xs : List D} {acc : List V} {vs : List Nat} {set : FG} {t : M Bool} {el : M D} {g : TG}
theorem backC_ow {e e2 : En} {j : Nat} {f : Bool} {x : D} (h : (backC e e2)[j]? = some (.ow f x)) : ∃ y, e[j]? = some (.ow f y) := by
  unfold backC at h
  rw [List.getElem?_zipWith] at h
  cases ea : e[j]? with
  | none => rw [ea] at h; cases h
  | some a =>
    cases eb : e2[j]? with
    | none => rw [ea, eb] at h; cases h
    | some b =>
      rw [ea, eb] at h
      cases a with
      | un => cases h
      | sh _ => cases h
      | ow f0 d0 => cases b <;> (cases h; exact ⟨_, rfl⟩)
/-- one turn of a comprehension -/
theorem comp_turn {ds ys : List D} {d : D} {v : V} {eF : En} (C : CS K c S1 σ Dd S H e xs acc) (rd : RelD K S d v) (q : compF vs set t el (d :: ds) e = some (ys, eF)) (hlen : xs.length + ys.length ≤ 1000000)
    (hg : ∀ (c : Ct) (S H : Hp) (σ : L2.St) (env e' : En) (d : D) (v : V) (Q : L2.St → Hp → Prop), Er K c S H σ env → RelD K S d v → set d env = some e' → (∀ σ', Er K c S H σ' e' → wipe σ' vs = wipe σ vs → Q σ' H) → g v σ H Q)
    (Pn : Hp → Prop) (nx : ∀ S2 H2 e2 xs2 acc2 ys2, CS K c S1 σ Dd S2 H2 e2 xs2 acc2 → compF vs set t el ds e2 = some (ys2, eF) → xs2 ++ ys2 = xs ++ ys → Pn H2) :
    g v (wipe σ vs) H fun σ2 H2 => wipe σ2 vs = wipe σ vs ∧ eT K t σ2 H2 fun b H3 => if b = true then eE K el σ2 H3 fun y H4 => ∃ acc, H4 Dd = some (.lst acc) ∧ acc.length < sizeLine ∧ Pn (upd H4 Dd (.lst (acc ++ [y]))) else Pn H3 := by
  unfold compF at q
  cases hf : freeE vs e with
  | false => rw [hf] at q; cases q
  | true =>
    rw [hf] at q
    have q' : (match set d (wipeE vs (lend e)) with
      | some e1 => (match t e1 with
        | some (b, e2) => bif b then (match el e2 with
            | some (x, e3) => (match compF vs set t el ds (backC e e3) with
              | some (xs, e4) => some (x :: xs, e4)
              | none => none)
            | none => none) else compF vs set t el ds (backC e e2)
        | none => none)
      | none => none) = some (ys, eF) := q
    have E1 := ER.wipes vs C.E.rebase (lentOf_free hf)
    have nlen : ∀ {e2 : En} {σ2 : L2.St} {S2 H2 : Hp}, ER K (lentOf σ e) S H S2 H2 σ2 e2 → wipe σ2 vs = wipe σ vs → e.length = e2.length := fun {e2 σ2 S2 H2} E2 w => by
      have h1 := congrArg List.length w
      rw [wipe_length, wipe_length] at h1
      rw [C.E.len, ← h1, E2.len]
    -- what stands behind work that keeps the block's slots
    have fin : ∀ {e2 : En} {σ2 : L2.St} {S2 H2 : Hp}, ER K (lentOf σ e) S H S2 H2 σ2 e2 → wipe σ2 vs = wipe σ vs → CS K c S1 σ Dd S2 H2 (backC e e2) xs acc := fun {e2 σ2 S2 H2} E2 w => by
      refine ⟨ER.unbaseC C.E E2 (nlen E2 w), C.s.trans E2.s0, ?_, C.d0, fun j f x z => ?_, E2.kep Dd _ C.h fun i z => ?_, C.r.mono E2.s0⟩
      · cases e0 : S2 Dd with
        | none => rfl
        | some o =>
          rcases E2.frs Dd (by rw [e0]; exact fun z => nomatch z) with z | z
          · exact absurd C.d z
          · rw [C.h] at z; cases z
      · obtain ⟨y, z⟩ := backC_ow z
        exact C.fr j f y z
      · obtain ⟨f, d0, a, b⟩ := lentOf_some z
        exact C.fr i f d0 a b
    split at q'
    · rename_i e1 q1
      refine hg ⟨lentOf σ e, S, H⟩ S H (wipe σ vs) _ e1 d v _ E1 rd q1 fun σ2 E2 w2 => ?_
      have w2' : wipe σ2 vs = wipe σ vs := by rw [w2, wipe_self fun _ h => h]
      refine ⟨w2', ⟨lentOf σ e, S, H⟩, S, e1, ?_⟩
      split at q'
      · rename_i b e2 q2
        refine ⟨b, e2, E2, q2, fun S3 H3 E3 s3 => ?_⟩
        cases b with
        | false => exact iteF (nx S3 H3 _ xs acc ys (fin E3 w2') q' rfl)
        | true =>
          have q'' : (match el e2 with
            | some (x, e3) => (match compF vs set t el ds (backC e e3) with
              | some (xs, e4) => some (x :: xs, e4)
              | none => none)
            | none => none) = some (ys, eF) := q'
          refine iteT ⟨⟨lentOf σ e, S, H⟩, S3, e2, ?_⟩
          split at q''
          · rename_i x e3 q3
            split at q''
            · rename_i ys' e4 q4
              cases q''
              refine ⟨x, e3, E3, q3, fun S4 H4 y E4 s4 r4 => ?_⟩
              have C4 := fin E4 w2'
              refine ⟨acc, C4.h, ?_, nx S4 _ (backC e e3) (xs ++ [x]) (acc ++ [y]) ys' ?_ q4 (by simp)⟩
              · rw [← C4.r.length]
                rw [List.length_cons] at hlen
                exact Nat.lt_of_lt_of_le (by omega : xs.length < 1000000) (by decide)
              · exact ⟨C4.E.side C4.d C4.d0 C4.fr, C4.s, C4.d, C4.d0, C4.fr, upd_same, C4.r.append (.cons r4 .nil)⟩
            · cases q''
          · cases q''
      · cases q'
    · cases q'
end
section
variable {X : Cx} {c : Ct} {elt tg iter : Expr} {ifs : List Expr} {scope : Scope} {own : List (Str × Nat)} {pos : Pos} {set : FG} {t : M Bool} {el : M D} {g : TG}
/-- what a comprehension hands on -/
theorem comp_done {S1 S H : Hp} {σ : L2.St} {Dd : Addr} {e : En} {xs : List D} {acc : List V} {Q : VK} (C : CS X.K c S1 σ Dd S H e xs acc)
    (kk : ∀ S' H' p, Er X.K c S' H' σ e → Same S1 S' → OwnAt X.K S' H' (.lst xs) p → S' p = none → c.H0 p = none → (∀ (j : Nat) (f : Bool) (x : D), e[j]? = some (.ow f x) → σ[j]? ≠ some (some (.ref p))) → Q (.ref p) H') : Q (.ref Dd) H :=
  kk S H Dd C.E C.s ⟨acc, C.h, C.r⟩ C.d C.d0 C.fr
theorem comp_start {S1 H1 : Hp} {σ : L2.St} {Dd : Addr} {e : En} (E : Er X.K c S1 H1 σ e) (hD : H1 Dd = none) : CS X.K c S1 σ Dd S1 (upd H1 Dd (.lst [])) e [] [] := by
  refine ⟨E.lay _ hD, Same.refl _, E.sub.free hD, ?_, fun j f x q z => ?_, upd_same, .nil⟩
  · cases ez : c.H0 Dd with
    | none => rfl
    | some o => exact absurd hD (E.dom Dd (by rw [ez]; exact fun z => nomatch z))
  · obtain ⟨p1, a1, o1, _⟩ := E.ow j f x q
    rw [a1] at z; cases z
    exact o1.there hD
/-- over a list -/
theorem t_compL {fi : M D} (hg : ∀ (c : Ct) (S H : Hp) (σ : L2.St) (env e' : En) (d : D) (v : V) (Q : L2.St → Hp → Prop), Er X.K c S H σ env → RelD X.K S d v → set d env = some e' → (∀ σ', Er X.K c S H σ' e' → wipe σ' (own.map (·.2)) = wipe σ (own.map (·.2)) → Q σ' H) → g v σ H Q)
    (σ : L2.St) (H : Hp) (Q : VK) (h : tO X.K c (mCompL fi set t el (own.map (·.2))) σ H Q) : tLc (iList X.K (tM X.K c fi)) g (eT X.K t) (eE X.K el) (own.map (·.2)) σ H Q := by
  obtain ⟨S, env, d, env', E, e1, kk⟩ := h
  unfold mCompL at e1
  split at e1
  · rename_i d0 e2 q
    split at e1
    · rename_i ds qd
      split at e1
      · rename_i zs eF qc
        obtain ⟨hz, hp⟩ := bif_some e1
        cases hp
        have hz' : zs.length ≤ 1000000 := of_decide_eq_true hz
        refine ⟨S, env, d0, e2, E, q, fun S1 H1 v E1 s1 r1 => ?_⟩
        obtain ⟨a, us, rfl, hv, rs⟩ : ∃ a us, v = .ref a ∧ SqL X.K S1 a us ∧ RelDs X.K S1 ds us := by
          unfold itemsD at qd
          split at qd
          · cases qd; cases r1 with
            | lst h r => exact ⟨_, _, rfl, .of h, r⟩
          · cases qd; cases r1 with
            | scr h => exact ⟨_, _, rfl, h, .of_ints _⟩
          · cases qd
        refine ⟨a, rfl, ⟨us, E1.sub.seq hv⟩, fun Dd hD => ?_⟩
        refine lc_list (xs := us) (fun i H => ∃ S e xs acc ys, CS X.K c S1 σ Dd S H e xs acc ∧ compF (own.map (·.2)) set t el (ds.drop i) e = some (ys, env') ∧ xs ++ ys = zs) ⟨S1, e2, [], [], zs, comp_start E1 hD, by rw [List.drop_zero]; exact qc, rfl⟩ ?_ ?_ ?_
        · rintro i H' _ ⟨S2, e, xs, acc, ys, C, _⟩
          exact (C.s.trans C.E.sub).seq hv
        · rintro i x H' hx ⟨S2, e, xs, acc, ys, C, q2, hy⟩
          have hi : i < ds.length := by rw [rs.length]; exact (List.getElem?_eq_some_iff.mp hx).1
          rw [List.drop_eq_getElem_cons hi] at q2
          obtain ⟨x', hx', rx⟩ := rs.get (List.getElem?_eq_getElem hi)
          rw [hx] at hx'; cases hx'
          refine comp_turn C (rx.mono C.s) q2 (by have := congrArg List.length hy; rw [List.length_append] at this; omega) hg _ fun S3 H3 e3 xs3 acc3 ys3 C3 q3 hy3 => ⟨S3, e3, xs3, acc3, ys3, C3, q3, hy3.trans hy⟩
        · rintro H' ⟨S2, e, xs, acc, ys, C, q2, hy⟩
          rw [List.drop_eq_nil_of_le (by rw [rs.length]; exact Nat.le_refl _)] at q2
          cases q2
          rw [List.append_nil] at hy
          subst hy
          exact comp_done C fun S' H' p E' s' => kk S' H' p E' (s1.trans s')
      · cases e1
    · cases e1
  · cases e1
theorem t_compR {fi : M (List D)} (hg : ∀ (c : Ct) (S H : Hp) (σ : L2.St) (env e' : En) (d : D) (v : V) (Q : L2.St → Hp → Prop), Er X.K c S H σ env → RelD X.K S d v → set d env = some e' → (∀ σ', Er X.K c S H σ' e' → wipe σ' (own.map (·.2)) = wipe σ (own.map (·.2)) → Q σ' H) → g v σ H Q)
    (σ : L2.St) (H : Hp) (Q : VK) (h : tO X.K c (mCompR fi set t el (own.map (·.2))) σ H Q) : tLc (iRng1 (tMs X.K c fi)) g (eT X.K t) (eE X.K el) (own.map (·.2)) σ H Q := by
  obtain ⟨S, env, d, env', E, e1, kk⟩ := h
  unfold mCompR at e1
  split at e1
  · rename_i j e2 q
    cases hj : rgOk j with
    | false => rw [hj] at e1; cases e1
    | true =>
      rw [hj] at e1
      have e1' : (match compF (own.map (·.2)) set t el (upTo j.toNat) e2 with
        | some (xs, e2) => bif cLen xs.length then some (D.lst xs, e2) else none
        | none => none) = some (d, env') := e1
      split at e1'
      · rename_i zs eF qc
        obtain ⟨hz, hp⟩ := bif_some e1'
        cases hp
        have hz' : zs.length ≤ 1000000 := of_decide_eq_true hz
        unfold rgOk at hj
        simp only [Bool.and_eq_true, decide_eq_true_eq] at hj
        refine ⟨S, env, _, e2, E, q, fun S1 H1 us E1 s1 r1 => ?_⟩
        cases r1 with
        | cons r1 rn =>
          cases rn; cases r1
          refine ⟨j, rfl, hj.1, hj.2, fun Dd hD => ?_⟩
          refine lc_range (lo := 0) (n := j.toNat) (fun i H => ∃ S e xs acc ys, CS X.K c S1 σ Dd S H e xs acc ∧ compF (own.map (·.2)) set t el ((upTo j.toNat).drop i) e = some (ys, env') ∧ xs ++ ys = zs) ⟨S1, e2, [], [], zs, comp_start E1 hD, by rw [List.drop_zero]; exact qc, rfl⟩ ?_ ?_
          · rintro i H' hi ⟨S2, e, xs, acc, ys, C, q2, hy⟩
            rw [upTo_drop hi] at q2
            rw [Int.zero_add]
            refine comp_turn C (.int _) q2 (by have := congrArg List.length hy; rw [List.length_append] at this; omega) hg _ fun S3 H3 e3 xs3 acc3 ys3 C3 q3 hy3 => ⟨S3, e3, xs3, acc3, ys3, C3, q3, hy3.trans hy⟩
          · rintro H' ⟨S2, e, xs, acc, ys, C, q2, hy⟩
            rw [List.drop_eq_nil_of_le (by unfold upTo; simp)] at q2
            cases q2
            rw [List.append_nil] at hy
            subst hy
            exact comp_done C fun S' H' p E' s' => kk S' H' p E' (s1.trans s')
      · cases e1'
  · cases e1
theorem fo_compL {fi : M D} (hc : X.calm = true) (hN : X.N.Nodup) (ok : BlkOk X.N X.env.scope scope own) (hi : FE X c iter fi)
    (hg : ∀ (s : Shared) (H : Hp) (C : Addr) (cl : List (Str × Addr)) (fp : List Addr), TgOk (X.blk s H scope (compEnvC scope cl C X.env) fp) (own.map (·.2)) tg set g) (ht : ∀ (s : Shared) (H : Hp) (C : Addr) (cl : List (Str × Addr)) (fp : List Addr), PTs (X.blk s H scope (compEnvC scope cl C X.env) fp) ifs (eT X.K t))
    (he : ∀ (s : Shared) (H : Hp) (C : Addr) (cl : List (Str × Addr)) (fp : List Addr), PE (X.blk s H scope (compEnvC scope cl C X.env) fp) elt (eE X.K el)) (hs : ∀ x, foldedSetIterable iter X.env x = pure x := by intro _; rfl) :
    FO X c (.ListComp elt [⟨tg, iter, ifs, 0⟩] scope pos) (mCompL fi set t el (own.map (·.2))) :=
  (pe_lc hc hN (pi_list hi) ok (fun s H C cl fp => (hg s H C cl fp).1) ht he hs).weak (t_compL (hg X.s_0 (fun _ => none) 0 [] []).2)
theorem fo_compR {fi : M (List D)} {a : Expr} {p p2 : Pos} (hc : X.calm = true) (hN : X.N.Nodup) (ok : BlkOk X.N X.env.scope scope own) (hi : FA X c [a] fi) (gl : Gl X "range") (hm : X.mg "range" = none)
    (hg : ∀ (s : Shared) (H : Hp) (C : Addr) (cl : List (Str × Addr)) (fp : List Addr), TgOk (X.blk s H scope (compEnvC scope cl C X.env) fp) (own.map (·.2)) tg set g) (ht : ∀ (s : Shared) (H : Hp) (C : Addr) (cl : List (Str × Addr)) (fp : List Addr), PTs (X.blk s H scope (compEnvC scope cl C X.env) fp) ifs (eT X.K t))
    (he : ∀ (s : Shared) (H : Hp) (C : Addr) (cl : List (Str × Addr)) (fp : List Addr), PE (X.blk s H scope (compEnvC scope cl C X.env) fp) elt (eE X.K el)) (hr : starEach [a] X.env = [(false, eval a X.env)] := by rfl)
    (hs : ∀ x, foldedSetIterable (.Call (.Name "range" p) [a] [] p2) X.env x = pure x := by intro _; rfl) : FO X c (.ListComp elt [⟨tg, .Call (.Name "range" p) [a] [] p2, ifs, 0⟩] scope pos) (mCompR fi set t el (own.map (·.2))) :=
  (pe_lc hc hN (pi_range1 gl hm hi hr) ok (fun s H C cl fp => (hg s H C cl fp).1) ht he hs).weak (t_compR (hg X.s_0 (fun _ => none) 0 [] []).2)
/-- y = [..] -/
theorem sw_comp {i : Nat} {y : Str} {py spos : Pos} {wi : TI} {f : M D} {tr : TE} (w : ∀ σ H Q, tO X.K c f σ H Q → tr σ H Q) (h : PS X (.Assign [.Name y py] (.ListComp elt [⟨tg, iter, ifs, 0⟩] scope pos) spos) (tAsg tr (gName i))) : FSt X c (.Assign [.Name y py] (.ListComp elt [⟨tg, iter, ifs, 0⟩] scope pos) spos) (sOwn i f) := h.weak fun D' σ H ⟨S, env, o, E, e1, kk⟩ => by
  unfold sOwn at e1
  split at e1
  · rename_i d e2 q
    split at e1
    · rename_i s qs
      split at e1
      · cases e1
      · rename_i hl
        cases e1
        refine w σ H _ ⟨S, env, d, e2, E, q, fun S1 H1 p E1 s1 o1 z1 n1 fr => ?_⟩
        exact kk S1 H1 _ (E1.putOwn (fun e z => by rw [qs] at z; exact lentS_no hl (Option.some.inj z)) o1 z1 n1 fun j f e _ q => fr j f e q) s1
    · cases e1
  · cases e1
theorem fs_ownCompL {i : Nat} {y : Str} {py spos : Pos} {fi : M D} (hc : X.calm = true) (hN : X.N.Nodup) (hy : X.N[i]? = some y) (hyl : X.env.scope.names.lookup y = some .local) (hsw : swapsWith (.ListComp elt [⟨tg, iter, ifs, 0⟩] scope pos) (some (.Name y py)) spos.line X.env = pure true) (ok : BlkOk X.N X.env.scope scope own) (hi : FE X c iter fi)
    (hg : ∀ (s : Shared) (H : Hp) (C : Addr) (cl : List (Str × Addr)) (fp : List Addr), TgOk (X.blk s H scope (compEnvC scope cl C X.env) fp) (own.map (·.2)) tg set g) (ht : ∀ (s : Shared) (H : Hp) (C : Addr) (cl : List (Str × Addr)) (fp : List Addr), PTs (X.blk s H scope (compEnvC scope cl C X.env) fp) ifs (eT X.K t))
    (he : ∀ (s : Shared) (H : Hp) (C : Addr) (cl : List (Str × Addr)) (fp : List Addr), PE (X.blk s H scope (compEnvC scope cl C X.env) fp) elt (eE X.K el)) (hs : ∀ x, foldedSetIterable iter X.env x = pure x := by intro _; rfl) :
    FSt X c (.Assign [.Name y py] (.ListComp elt [⟨tg, iter, ifs, 0⟩] scope pos) spos) (sOwn i (mCompL fi set t el (own.map (·.2)))) :=
  sw_comp (wi := iList X.K (tM X.K c fi)) (t_compL (hg X.s_0 (fun _ => none) 0 [] []).2) (ps_setLc hc hN hy hyl hsw (pi_list hi) ok (fun s H C cl fp => (hg s H C cl fp).1) ht he hs)
theorem fs_ownCompR {i : Nat} {y : Str} {py spos : Pos} {fi : M (List D)} {a : Expr} {p p2 : Pos} (hc : X.calm = true) (hN : X.N.Nodup) (hy : X.N[i]? = some y) (hyl : X.env.scope.names.lookup y = some .local) (hsw : swapsWith (.ListComp elt [⟨tg, .Call (.Name "range" p) [a] [] p2, ifs, 0⟩] scope pos) (some (.Name y py)) spos.line X.env = pure true) (ok : BlkOk X.N X.env.scope scope own) (hi : FA X c [a] fi) (gl : Gl X "range") (hm : X.mg "range" = none)
    (hg : ∀ (s : Shared) (H : Hp) (C : Addr) (cl : List (Str × Addr)) (fp : List Addr), TgOk (X.blk s H scope (compEnvC scope cl C X.env) fp) (own.map (·.2)) tg set g) (ht : ∀ (s : Shared) (H : Hp) (C : Addr) (cl : List (Str × Addr)) (fp : List Addr), PTs (X.blk s H scope (compEnvC scope cl C X.env) fp) ifs (eT X.K t))
    (he : ∀ (s : Shared) (H : Hp) (C : Addr) (cl : List (Str × Addr)) (fp : List Addr), PE (X.blk s H scope (compEnvC scope cl C X.env) fp) elt (eE X.K el)) (hr : starEach [a] X.env = [(false, eval a X.env)] := by rfl)
    (hs : ∀ x, foldedSetIterable (.Call (.Name "range" p) [a] [] p2) X.env x = pure x := by intro _; rfl) :
    FSt X c (.Assign [.Name y py] (.ListComp elt [⟨tg, .Call (.Name "range" p) [a] [] p2, ifs, 0⟩] scope pos) spos) (sOwn i (mCompR fi set t el (own.map (·.2)))) :=
  sw_comp (wi := iRng1 (tMs X.K c fi)) (t_compR (hg X.s_0 (fun _ => none) 0 [] []).2) (ps_setLc hc hN hy hyl hsw (pi_range1 gl hm hi hr) ok (fun s H C cl fp => (hg s H C cl fp).1) ht he hs)
end
section
variable {X : Cx} {c : Ct} {a b : Expr} {pos : Pos} {fa fb : M Hd}
/-- two lists, one behind the other: a new one -/
def gCat : D → D → Option D
  | .lst xs, .lst ys => if xs.length + ys.length ≤ sizeLine then some (.lst (xs ++ ys)) else none
  | _, _ => none
theorem fo_cat (ha : FH X c a fa) (hb : FH X c b fb) : FO X c (.BinOp a .Add b pos) (m2H gCat fa fb) := (pe_op op_cat ha hb).weak fun σ H Q ⟨S, env, d, env', E, e1, k⟩ => by
  unfold m2H at e1
  split at e1
  · cases e1
  · rename_i da ea qa
    split at e1
    · cases e1
    · rename_i db eb qb
      split at e1
      · rename_i a' b' q1 q2
        split at e1
        · cases e1
        · rename_i z qz
          cases e1
          refine ⟨S, env, da, ea, E, qa, fun S1 H1 v1 E1 s1 r1 => ⟨S1, ea, db, _, E1, qb, fun S2 H2 v2 E2 s2 r2 => ?_⟩⟩
          have w1 := view E2 (r1.mono s2) q1
          have w2 := view E2 r2 q2
          unfold gCat at qz
          split at qz
          · rename_i xs ys
            split at qz
            · rename_i hz
              cases qz
              obtain ⟨l1, vs, rfl, h1, t1⟩ := w1.lst E2.sub
              obtain ⟨l2, us, rfl, h2, t2⟩ := w2.lst E2.sub
              refine ⟨l1, l2, vs, us, rfl, rfl, h1, h2, by rw [← t1.length, ← t2.length]; exact hz, fun p hp => ?_⟩
              refine k S2 _ p (E2.lay _ hp) (s1.trans s2) ⟨vs ++ us, upd_same, t1.append t2⟩ (E2.sub.free hp) ?_ fun j f e q z => ?_
              · cases ez : c.H0 p with
                | none => rfl
                | some o => exact absurd hp (E2.dom p (by rw [ez]; exact fun z => nomatch z))
              · obtain ⟨p1, a1, o1, _⟩ := E2.ow j f e q
                rw [a1] at z; cases z
                exact o1.there hp
            · cases qz
          · cases qz
      · cases e1
end
end FL

set_option Elab.async false
set_option linter.all false
set_option maxRecDepth 100000
set_option maxHeartbeats 2000000
namespace FL
open PySem PySem.Spec PyProof.Rows L2
/-! ## the head's facts, and that the table of modules stands -/
def sysD (g : Addr → Option Obj) : Bool := match g sysModules with
  | some o => (match o.data with
    | .dict _ _ => true
    | _ => false)
  | none => false
theorem sysD_ok {h : Heap} (e : sysD h.get? = true) : SysB h := by
  unfold sysD at e
  split at e
  · rename_i o q
    split at e
    · rename_i es n d
      exact ⟨o, es, n, q, d⟩
    · cases e
  · cases e
abbrev AlS : Type := He.AlD × Bool
def obsS (n : Nat) (fa : List He.Fa) (fn : List He.DefD) (g : Addr → Option Obj) : AlS := (He.obsDG n fa fn g, sysD g)
def hookS (n : Nat) (fa : List He.Fa) (fn : List He.DefD) : PySem.W.Hook where
  α := AlS
  obs := fun s => obsS n fa fn s.heap.get?
  val := fun _ => (He.valD fn, true)
  says := fun _ h => (∃ K : PySem.W.Frag, K.In h ∧ He.SaysD fa fn K) ∧ SysB h
  of := fun w s e => ⟨(He.hookD n fa fn).of w s (congrArg (fun z : AlS => z.1) e), sysD_ok (congrArg (fun z : AlS => z.2) e)⟩
  keeps := fun w h h' ⟨a, o, es, n', e, d⟩ k => ⟨(He.hookD n fa fn).keeps w h h' a k, o, es, n', k _ _ e, d⟩
theorem obsS_eq {n : Nat} {fa : List He.Fa} {fn : List He.DefD} {g : Addr → Option Obj} {s : Shared} (h : ∀ a, g a = s.heap.get? a) : obsS n fa fn g = (hookS n fa fn).obs s := by
  have e : g = s.heap.get? := funext h
  rw [e] <;> rfl
end FL

set_option Elab.async false
set_option linter.all false
set_option maxRecDepth 100000
set_option maxHeartbeats 2000000
namespace FL
open PySem PySem.Spec PyProof.Rows L2
/-! ## what is never reached -/
def sBad : FS := fun _ => none
def mBad : M D := fun _ => none
section
variable {X : Cx} {c : Ct} {st : Stmt} {e : Expr}
theorem fs_bad : FSt X c st sBad := ⟨fun pins s σ H D I ⟨S, env, o, E, q, k⟩ => by cases q⟩
theorem f_bad : FE X c e mBad := ⟨fun pins s σ H Q I ⟨S, env, d, env', E, q, k⟩ => by cases q⟩
end
/-! ## promises that may be used under a repr too -/
section
variable {P : Program} {w : World} {K : PySem.W.Frag} {mg : Str → Option Value} {base : Heap} {k : Nat} {f : Addr} {name qual : Str} {params : Arguments} {body : List Stmt} {scope : Scope} {dvs : List V} {kws : List (Str × V)} {fd : FuncData} {N ps : List Str}
theorem toG {CX : CXT} {sp : Sp} (F : FnOk P w K mg base CX k f fd ps sp) : FnG P w K mg base CX k f fd ps sp := ⟨F.len, fun A outer s H args us vs Q E _ => F.run A outer s H args us vs Q E⟩
/-- the walk of a body whose promise is spF -/
theorem walkF {fb : FS} {X : Cx} (S0 : ∀ c, FSs X.nox c body fb) (hN : X.N = N) {vs : List V} {H : Hp} {Q : VK} {E : XK} (h : spF K (mkFn N.length ps.length fb) vs H Q E) (hK : X.K = K) :
    ∃ t, PSs X body t ∧ t { nx := fun _ H' => Q .non H', rt := Q } (start N vs) H := by
  subst hK
  obtain ⟨L, S, env, d, env', E1, q, kk⟩ := h
  refine ⟨_, PSs.nox (S0 ⟨L, S, H⟩), ?_⟩
  unfold mkFn at q
  split at q
  · rename_i hl
    rw [← hl] at q
    split at q
    · rename_i d' e q2
      obtain ⟨hz, rfl, rfl⟩ := endF_some q
      exact ⟨S, _, _, E1.start, q2, fun S' H' σ' v E' s' r' => kk S' H' v (ER.finish E1 E' hz) s' r'⟩
    · rename_i e q2
      obtain ⟨hz, rfl, rfl⟩ := endF_some q
      exact ⟨S, _, _, E1.start, q2, fun S' H' σ' E' s' => kk S' H' .non (ER.finish E1 E' hz) s' .non⟩
    · cases q
  · cases q
theorem def_okN {fb : FS} (F : FunD K name qual params body scope dvs kws f fd) (Sc : FnScope N ps scope)
    (walk : ∀ (cdv : Value) (A : Around) (outer : List Env) (s : Shared) (H : Hp) (E : XK) (c : Ct), Room k (A.deeper (envOfC qual scope s.heap.objs.size f cdv)) →
      FSs (cxOf CX0 P w K mg base N qual scope f cdv A outer s H E).nox c body fb) :
    FnOk P w K mg base CX0 (k + 1) f fd ps (spF K (mkFn N.length ps.length fb)) :=
  F.ok Sc (fun vs H Q E h => spF_len vs H Q E h) fun cdv A outer s H vs Q E room h =>
    walkF (fun c => walk cdv A outer s H E c room) rfl h rfl
end
section
variable {X : Cx} {c : Ct} {k : Nat} {f : Addr} {fd : FuncData} {ps : List Str} {φ : Fn} {x : Str} {p pos : Pos} {e : Expr} {es : List Expr} {fa : M (List D)} {j : Nat}
theorem f_callN (G : FnOk X.prog X.w X.K X.mg X.base CX0 k f fd ps (spF X.K φ)) (room : Room k X.A) (gl : Gl X x) (hm : X.mg x = some (.ref f)) (kp : PySem.W.keepIn X.K (.ref f) = true) (hb : Binds X.K fd ps []) (ha : FA X c (e :: es) fa)
    (n1 : (x == ("__debug__" : Str)) = false := by decide) (n2 : starEach (e :: es) X.env = (false, eval e X.env) :: starEach es X.env := by rfl) (n3 : (backTo pos (starEach es X.env)).any (·.1) = false := by rfl) : FE X c (.Call (.Name x p) (e :: es) [] pos) (mCall φ fa) :=
  (pe_call G room gl hm kp hb .nil pass0 ha n1 n2 n3).weak t_call
end
/-! ## fields -/
def gFld (cn f : Str) : D → Option D
  | .obj c fs => if c = cn then fs.lookup f else none
  | _ => none
theorem RelFs.lookup {K : PySem.W.Frag} {S : Hp} {f : Str} {d : D} : ∀ {ds : List (Str × D)} {vs : List (Str × V)}, RelFs K S ds vs → ds.lookup f = some d → ∃ v, vs.lookup f = some v ∧ RelD K S d v
  | _, _, .nil, e => by cases e
  | _, _, .cons (k := k) h r, e => by
    rw [List.lookup_cons] at e ⊢
    cases hb : f == k with
    | true => rw [hb] at e; cases e; exact ⟨_, rfl, h⟩
    | false => rw [hb] at e; exact RelFs.lookup r e
theorem Vw.obj {K : PySem.W.Frag} {S H : Hp} {cn : Str} {fs : List (Str × D)} {v : V} (h : Vw K S H (.obj cn fs) v) (hs : Same S H) : ∃ a dx vs, v = .ref a ∧ H a = some (.ins (He.ga K cn) dx vs) ∧ RelFs K S fs vs := by
  rcases h with h | ⟨p, rfl, h⟩
  · cases h with
    | obj h r => exact ⟨_, _, _, rfl, hs _ _ h, r⟩
  · obtain ⟨dx, vs, e, r⟩ := h
    exact ⟨p, dx, vs, rfl, e, r⟩
section
variable {X : Cx} {c : Ct} {e : Expr} {pos pos' px : Pos} {f cn x : Str} {fa : M Hd} {fv : M D} {i : Nat}
/-- e.f -/
theorem f_fld (ha : FH X c e fa) (cl : Cls X.K (He.ga X.K cn)) (na : NoAttr X.K (He.ga X.K cn) f) (hb : attributeBase e f X.env (eval e X.env) = eval e X.env := by rfl) : FE X c (.Attribute e f pos) (m1H (gFld cn f) fa) := (pe_fld ha hb).weak fun σ H Q ⟨S, env, d, env', E, e1, k⟩ => by
  unfold m1H at e1
  split at e1
  · cases e1
  · rename_i da ea qa
    split at e1
    · cases e1
    · rename_i a' q1
      split at e1
      · cases e1
      · rename_i z qz
        cases e1
        refine ⟨S, env, da, _, E, qa, fun S1 H1 v1 E1 s1 r1 => ?_⟩
        have w := view E1 r1 q1
        unfold gFld at qz
        split at qz
        · rename_i c' fs
          split at qz
          · rename_i hc
            subst hc
            obtain ⟨a, dx, vs, rfl, h1, r⟩ := w.obj E1.sub
            obtain ⟨v, lv, rv⟩ := r.lookup qz
            exact ⟨a, _, dx, vs, v, rfl, h1, cl, na, lv, k S1 H1 v E1 s1 rv⟩
          · cases qz
        · cases qz
def putFD (f : Str) (d : D) : List (Str × D) → List (Str × D)
  | [] => [(f, d)]
  | (g, x) :: r => if g = f then (g, d) :: r else (g, x) :: putFD f d r
theorem RelFs.put {K : PySem.W.Frag} {S : Hp} {d : D} {v : V} (h : RelD K S d v) : ∀ {ds : List (Str × D)} {vs : List (Str × V)}, RelFs K S ds vs → RelFs K S (putFD f d ds) (putF f v vs)
  | _, _, .nil => .cons h .nil
  | _, _, .cons (k := k) h' r => by
    unfold putFD putF
    by_cases e : k = f
    · rw [if_pos e, if_pos e]; exact .cons h r
    · rw [if_neg e, if_neg e]; exact .cons h' (RelFs.put h r)
theorem RelFs.length {K : PySem.W.Frag} {S : Hp} : ∀ {ds : List (Str × D)} {vs : List (Str × V)}, RelFs K S ds vs → ds.length = vs.length
  | _, _, .nil => rfl
  | _, _, .cons _ r => congrArg (· + 1) (RelFs.length r)
/-- o.f = e, o an own object -/
def sFldD (i : Nat) (cn f : Str) (fv : M D) : FS := fun e => match fv e with
  | some (d, e1) => (match e1[i]? with
    | some (.ow g (.obj c fs)) => if c = cn then (if fs.length < 100 then some (.nx (e1.set i (.ow g (.obj c (putFD f d fs))))) else none) else none
    | _ => none)
  | none => none
theorem fs_fld (hi : PE X (.Name x px) (tVar i)) (hv : FE X c e fv) (cl : Cls X.K (He.ga X.K cn)) (na : NoAttr X.K (He.ga X.K cn) f) (hs : swapsWith e (some (.Attribute (.Name x px) f pos')) pos.line X.env = pure false := by rfl) :
    FSt X c (.Assign [.Attribute (.Name x px) f pos'] e pos) (sFldD i cn f fv) := (ps_fld hi hv hs).weak fun D' σ H ⟨S, env, o, E, e1, k⟩ => by
  unfold sFldD at e1
  split at e1
  · rename_i d e2 q
    split at e1
    · rename_i g c' fs q2
      split at e1
      · rename_i hc
        subst hc
        split at e1
        · rename_i hl
          cases e1
          refine ⟨S, env, d, e2, E, q, fun S1 H1 v E1 s1 r1 => ?_⟩
          obtain ⟨p, a, ⟨dx, vs, hp, rs⟩, z, w⟩ := E1.ow i g _ q2
          refine ⟨_, a, p, _, dx, vs, rfl, hp, cl, na, by rw [← rs.length]; omega, ?_⟩
          exact k S1 _ σ (E1.chg q2 a (fun b hb => upd_ne hb) ⟨dx, _, upd_same, rs.put r1⟩) s1
        · cases e1
      · cases e1
    · cases e1
  · cases e1
end
/-! ## instances -/
/-- C(..): φ is what __init__ does to the new object -/
def mMake (cn : Str) (φ : Fn) (fa : M (List D)) : M D := fun e => match fa e with
  | some (ds, e1) => (match φ (.ow false (.obj cn []) :: ds.map .sh) with
    | some (.non, .ow false d :: _) => some (d, e1)
    | _ => none)
  | none => none
/-- .. of an __init__ that takes a tuple of all -/
def mMakeS (cn : Str) (φ : Fn) (fa : M (List D)) : M D := fun e => match fa e with
  | some (ds, e1) => bif cLen ds.length then (match φ [.ow false (.obj cn []), .sh (.tup ds)] with
    | some (.non, .ow false d :: _) => some (d, e1)
    | _ => none) else none
  | none => none
/-- the promise of such an __init__ -/
def spS (K : PySem.W.Frag) (φ : Fn) : Sp := fun vs H Q E => ∃ ws rest, vs = ws ++ rest ∧ ws.length = 1 ∧ rest.length ≤ sizeLine ∧ ∀ p, H p = none → spF K φ (ws ++ [V.ref p]) (upd H p (.tup rest)) Q E
section
variable {X : Cx} {c : Ct} {e : Expr} {es : List Expr} {k : Nat} {f : Addr} {φ : Fn} {cn x : Str} {p pos : Pos} {fa : M (List D)}
theorem same_of {H H' : Hp} {x : Addr} {o : HO} (h : H x = none) (s : Same H H') : Same H (upd H' x o) := fun b u q => by rw [upd_ne (ne_of_none q h)]; exact s b u q
/-- what the making of an instance leaves -/
theorem made {K : PySem.W.Frag} {c : Ct} {σ : L2.St} {S1 H1 S' H' S2 H2 : Hp} {e1 r : En} {vs : List V} {d : D} {x : Addr} {Q : VK} (E1 : Er K c S1 H1 σ e1) (hx : H1 x = none) (s1 : Same S1 S') (h1 : Same H1 H') (fr : ∀ b, S' b ≠ none → S1 b ≠ none ∨ H1 b = none)
    (E2 : ER K (lent0 x) S' H' S2 H2 ((V.ref x :: vs).map some) (.ow false d :: r))
    (kk : ∀ S' H' p, Er K c S' H' σ e1 → Same S1 S' → OwnAt K S' H' d p → S' p = none → c.H0 p = none → (∀ (j : Nat) (f : Bool) (e : D), e1[j]? = some (.ow f e) → σ[j]? ≠ some (some (.ref p))) → Q (.ref p) H') : Q (.ref x) H2 := by
  obtain ⟨p, a, o, z, _⟩ := E2.ow 0 false d rfl
  cases a
  have s2 : Same S1 S2 := s1.trans E2.s0
  refine kk S2 H2 x (E1.grow s2 E2.sub (fun b q => E2.dom b ?_) (fun b o q => E2.kep b o (h1 b o q) fun i hi => ?_) fun b q => ?_) s2 o z ?_ fun j f e q z => ?_
  · cases ez : H1 b with
    | none => exact absurd ez q
    | some u => rw [h1 b u ez]; exact fun z => nomatch z
  · unfold lent0 at hi
    split at hi
    · cases hi; rw [hx] at q; cases q
    · cases hi
  · rcases E2.frs b q with q | q
    · exact fr b q
    · refine .inr ?_
      cases ez : H1 b with
      | none => rfl
      | some u => rw [h1 b u ez] at q; cases q
  · cases ez : c.H0 x with
    | none => rfl
    | some o => exact absurd hx (E1.dom x (by rw [ez]; exact fun z => nomatch z))
  · obtain ⟨p1, a1, o1, _⟩ := E1.ow j f e q
    rw [a1] at z; cases z
    exact o1.there hx
theorem t_makeS (M : Mk X.K (He.ga X.K cn) f) (σ : L2.St) (H : Hp) (Q : VK) (h : tO X.K c (mMakeS cn φ fa) σ H Q) : StX.tMakeR (He.ga X.K cn) (spS X.K φ) E0 (tMs X.K c fa) σ H Q := by
  obtain ⟨S, env, d, env', E, e1, kk⟩ := h
  unfold mMakeS at e1
  split at e1
  · rename_i ds e2 q
    obtain ⟨hl, e1⟩ : cLen ds.length = true ∧ (match φ [.ow false (.obj cn []), .sh (.tup ds)] with
      | some (.non, .ow false d :: _) => some (d, e2)
      | _ => none) = some (d, env') := by
      cases hc : cLen ds.length with
      | false => rw [hc] at e1; cases e1
      | true => rw [hc] at e1; exact ⟨rfl, e1⟩
    split at e1
    · rename_i d' r q2
      cases e1
      refine ⟨S, env, ds, _, E, q, fun S1 H1 vs E1 s1 r1 x dx hx hdx hne => ?_⟩
      have hz : ds.length ≤ 1000000 := of_decide_eq_true hl
      refine ⟨[V.ref x], vs, rfl, rfl, by rw [← r1.length]; exact Nat.le_trans hz (by decide), fun p hp => ?_⟩
      have hpx : p ≠ x := fun z => by subst z; rw [upd_same] at hp; cases hp
      have hpd : p ≠ dx := fun z => by
        subst z
        rw [upd_ne hpx, upd_same] at hp; cases hp
      have hp1 : H1 p = none := by rw [upd_ne hpx, upd_ne hpd] at hp; exact hp
      have sp : S1 p = none := E1.sub.free hp1
      have sx : S1 x = none := E1.sub.free hx
      have sd : S1 dx = none := E1.sub.free hdx
      let H' : Hp := upd (upd (upd H1 dx (.own x)) x (.ins (He.ga X.K cn) dx [])) p (.tup vs)
      have h1 : Same H1 H' := same_of hp1 (same_of hx (same_of hdx (Same.refl _)))
      have s1' : Same S1 (upd S1 p (.tup vs)) := same_upd sp
      have sub : Same (upd S1 p (.tup vs)) H' := fun b u z => by
        by_cases hb : b = p
        · subst hb
          rw [upd_same] at z
          show upd _ b _ b = _
          rw [upd_same]; exact z
        · rw [upd_ne hb] at z
          exact h1 b u (E1.sub b u z)
      have ox : OwnAt X.K (upd S1 p (.tup vs)) H' (.obj cn []) x := ⟨dx, [], by show upd _ p _ x = _; rw [upd_ne (Ne.symm hpx), upd_same], .nil⟩
      have rt : RelDs X.K (upd S1 p (.tup vs)) [.tup ds] [V.ref p] := .cons (.tup (.inl upd_same) (r1.mono s1')) .nil
      refine ⟨_, _, _, _, _, ER.args0 (vs := [V.ref p]) sub rt ox (by rw [upd_ne (Ne.symm hpx)]; exact sx), q2, fun S2 H2 v E2 s2 r2 => ?_⟩
      cases r2
      refine ⟨rfl, made (vs := [V.ref p]) E1 hx s1' h1 (fun b z => ?_) E2 fun S3 H3 p3 E3 s3 => kk S3 H3 p3 E3 (s1.trans s3)⟩
      by_cases hb : b = p
      · subst hb; exact .inr hp1
      · rw [upd_ne hb] at z; exact .inl z
    · cases e1
  · cases e1
/-- C(e, ..), __init__(self, *v) -/
theorem fo_makeS (M : Mk X.K (He.ga X.K cn) f) (F : FnR X.prog X.w X.K X.mg X.base CX0 k f (spS X.K φ)) (room : Room (k + 1) X.A) (gl : Gl X x) (hm : X.mg x = some (.ref (He.ga X.K cn))) (ha : FA X c (e :: es) fa)
    (hdb : (x == ("__debug__" : Str)) = false := by decide) (he : starEach (e :: es) X.env = (false, eval e X.env) :: starEach es X.env := by rfl) (hpl : (backTo pos (starEach es X.env)).any (·.1) = false := by rfl) :
    FO X c (.Call (.Name x p) (e :: es) [] pos) (mMakeS cn φ fa) := (StX.pe_makeR M F room gl hm pass0 ha hdb he hpl).weak (t_makeS M)
/-- C(e, ..), __init__(self, a, ..) -/
theorem fo_make {fd : FuncData} {ps : List Str} (M : Mk X.K (He.ga X.K cn) f) (F : FnOk X.prog X.w X.K X.mg X.base CX0 k f fd ps (spF X.K φ)) (room : Room (k + 1) X.A) (gl : Gl X x) (hm : X.mg x = some (.ref (He.ga X.K cn))) (hb : Binds X.K fd ps []) (ha : FA X c (e :: es) fa)
    (hdb : (x == ("__debug__" : Str)) = false := by decide) (he : starEach (e :: es) X.env = (false, eval e X.env) :: starEach es X.env := by rfl) (hpl : (backTo pos (starEach es X.env)).any (·.1) = false := by rfl) :
    FO X c (.Call (.Name x p) (e :: es) [] pos) (mMake cn φ fa) := (pe_make M F room gl hm hb .nil pass0 ha hdb he hpl).weak fun σ H Q ⟨S, env, d, env', E, e1, kk⟩ => by
  unfold mMake at e1
  split at e1
  · rename_i ds e2 q
    split at e1
    · rename_i d' r q2
      cases e1
      refine ⟨S, env, ds, _, E, q, fun S1 H1 vs E1 s1 r1 x dx hx hdx hne => ?_⟩
      have sx : S1 x = none := E1.sub.free hx
      let H' : Hp := upd (upd H1 dx (.own x)) x (.ins (He.ga X.K cn) dx [])
      have h1 : Same H1 H' := same_of hx (same_of hdx (Same.refl _))
      have sub : Same S1 H' := fun b u z => h1 b u (E1.sub b u z)
      have ox : OwnAt X.K S1 H' (.obj cn []) x := ⟨dx, [], upd_same, .nil⟩
      show spF X.K φ (V.ref x :: (vs ++ [])) _ _ E0
      rw [List.append_nil]
      refine ⟨_, _, _, _, _, ER.args0 sub r1 ox sx, q2, fun S2 H2 v E2 s2 r2 => ?_⟩
      cases r2
      exact ⟨rfl, made (vs := vs) E1 hx (Same.refl _) h1 (fun b z => .inl z) E2 fun S3 H3 p3 E3 s3 => kk S3 H3 p3 E3 (s1.trans s3)⟩
    · cases e1
  · cases e1
/-- e.f, a property -/
def mProp (cn : Str) (φ : Fn) (fa : M D) : M D := fun e => match fa e with
  | some (.obj c fs, e1) => if c = cn then (match φ [.sh (.obj c fs)] with
    | some (r, _) => some (r, e1)
    | none => none) else none
  | _ => none
theorem f_prop {fd : FuncData} {ps : List Str} {fe : M D} {pr : Addr} {g : Str} (ha : FE X c e fe) (cl : Cls X.K (He.ga X.K cn)) (hp : PropOf X.K (He.ga X.K cn) g pr f) (F : FnOk X.prog X.w X.K X.mg X.base CX0 k f fd ps (spF X.K φ)) (room : Room (k + 1) X.A) (hb : Binds X.K fd ps [])
    (hab : attributeBase e g X.env (eval e X.env) = eval e X.env := by rfl) : FE X c (.Attribute e g pos) (mProp cn φ fe) := (pe_prop ha cl hp F room hb .nil (E := E0) pass0 hab).weak fun σ H Q ⟨S, env, d, env', E, e1, kk⟩ => by
  unfold mProp at e1
  split at e1
  · rename_i c' fs e2 q
    split at e1
    · rename_i hc
      subst hc
      split at e1
      · rename_i r e3 q2
        cases e1
        refine ⟨S, env, _, _, E, q, fun S1 H1 v E1 s1 r1 => ?_⟩
        have r1' := r1
        cases r1 with
        | obj h r =>
          refine ⟨_, _, _, rfl, E1.sub _ _ h, ?_⟩
          refine ⟨_, S1, _, _, _, ER.args E1.sub (.cons r1' .nil), q2, fun S2 H2 v E2 s2 r2 => ?_⟩
          exact kk S2 H2 v (E1.grow E2.s0 E2.sub E2.dom (fun b o z => E2.kep b o z fun _ z => nomatch z) E2.frs) (s1.trans s2) r2
      · cases e1
    · cases e1
  · cases e1
end
section
variable {P : Program} {w : World} {K : PySem.W.Frag} {mg : Str → Option Value} {base : Heap} {k : Nat} {f : Addr} {name qual : Str} {params : Arguments} {body : List Stmt} {scope : Scope} {fd : FuncData} {N : List Str} {p1 pv : Str}
/-- def f(self, *v) -/
theorem def_star {fb : FS} (F : FunD K name qual params body scope [] [] f fd) (Sc : FnScope N [p1, pv] scope)
    (h : ∀ (kV doc pm : Value) (an : Option Addr) (cdv ct : Value) (us rest : List Value), us.length = 1 → bindArgs (PySem.W.fnOf name qual params body scope .none kV doc pm an cdv ct) ⟨us ++ rest, []⟩ = (newTuple rest >>= fun t => pure ([p1].zip us ++ [(pv, t)])))
    (walk : ∀ (cdv : Value) (A : Around) (outer : List Env) (s : Shared) (H : Hp) (E : XK) (c : Ct), Room k (A.deeper (envOfC qual scope s.heap.objs.size f cdv)) →
      FSs (cxOf CX0 P w K mg base N qual scope f cdv A outer s H E).nox c body fb) :
    FnR P w K mg base CX0 (k + 1) f (spS K (mkFn N.length 2 fb)) := by
  obtain ⟨oc, od, dV, kV, doc, pm, an, cdv, ct, osl, rfl, lk, hcd, hD, _⟩ := F.ex
  rcases hD with ⟨_, rfl⟩ | ⟨e, _⟩
  · exact StX.fn_star (ps := [p1]) lk hcd Sc StX.cxUp_none (h kV doc pm an cdv ct) fun A outer s H vs Q E room hsp =>
      walkF (ps := [p1, pv]) (fun c => walk cdv A outer s H E c room) rfl hsp rfl
  · exact absurd rfl e
end
end FL

set_option Elab.async false
set_option linter.all false
set_option maxRecDepth 100000
set_option maxHeartbeats 2000000
namespace FL
open PySem PySem.Spec PyProof.Rows L2
/-! ## facts of properties and of one's own, behind the head -/
/-- the property f of the class, its getter -/
def pgA (K : PySem.W.Frag) (cn f : Str) : Addr := match PySem.W.recIn K (He.ma K (He.ga K cn) f) "property" with
  | some (.ref g :: _) => g
  | _ => 0
def fnA (K : PySem.W.Frag) (a : Addr) : He.FnW := match K.lookup a with
  | some ⟨_, _, .func fd, _⟩ => some (fd.name, fd.qualname, fd.params, fd.body, fd.scope, fd.globals, fd.closure, fd.builtins)
  | _ => none
def okA (K : PySem.W.Frag) (d : He.DefD) (a : Addr) : Bool := PySem.W.keepIn K (.ref a) && (match K.lookup a with
  | some ⟨_, _, .func fd, _⟩ => PySem.W.codeIn K fd.code d.qual && (He.dflB K fd.defaults (d.dvs K) && He.kwdB K fd.kwdefaults (d.kws K))
  | _ => false)
theorem and_both {a b : Bool} (h : (a && b) = true) : a = true ∧ b = true := Bool.and_eq_true_iff.mp h
theorem funA {K : PySem.W.Frag} {d : He.DefD} {a : Addr} (e : fnA K a = d.val) (c : okA K d a = true) : ∃ fd, FunD K d.name d.qual d.params d.body d.scope (d.dvs K) (d.kws K) a fd := by
  obtain ⟨kp, c2⟩ := and_both c
  unfold fnA at e
  cases q : K.lookup a with
  | none =>
    rw [q] at c2
    cases c2
  | some o =>
    obtain ⟨oc, od, dt, osl⟩ := o
    rw [q] at c2 e
    cases dt with
    | func fd =>
      obtain ⟨n1, n2, n3, n4, n5, n6, n7, n8, n9, n10, n11, n12, n13, n14, n15⟩ := fd
      have e2 : (some (n1, n2, n3, n4, n5, n6, n7, n15) : He.FnW) = some (d.name, d.qual, d.params, .stmts d.body, d.scope, mainGlobals, [], builtinsNs) := e
      simp only [Option.some.injEq, Prod.mk.injEq] at e2
      obtain ⟨h1, h2, h3, h4, h5, h6, h7, h8⟩ := e2
      subst h1 h2 h3 h4 h5 h6 h7 h8
      have c3 : (PySem.W.codeIn K n13 d.qual && (He.dflB K n8 (d.dvs K) && He.kwdB K n9 (d.kws K))) = true := c2
      obtain ⟨k1, k2⟩ := and_both c3
      obtain ⟨k3, k4⟩ := and_both k2
      exact ⟨_, ⟨oc, od, n8, n9, n10, n11, n12, n13, n14, osl, rfl, q, k1, He.dflB_ok k3, He.kwdB_ok k4⟩, kp⟩
    | _ => cases c2
def propB (K : PySem.W.Frag) (cn f : Str) : Bool :=
  He.eqO (PySem.W.findIn K (.ref (He.ga K cn)) f) (some (some (.ref (He.ma K (He.ga K cn) f)))) &&
  (He.eqO (PySem.W.specialIn K (.ref (He.ma K (He.ga K cn) f)) "__get__") (some (some (.builtin "property.__get__"))) &&
  (decide (PySem.W.takesIn K (.ref (He.ma K (He.ga K cn) f)) = some true) && (match PySem.W.recIn K (He.ma K (He.ga K cn) f) "property" with
    | some (.ref _ :: _) => true
    | _ => false)))
theorem propB_ok {K : PySem.W.Frag} {cn f : Str} (h : propB K cn f = true) : PropOf K (He.ga K cn) f (He.ma K (He.ga K cn) f) (pgA K cn f) := by
  obtain ⟨h1, h⟩ := and_both h
  obtain ⟨h2, h⟩ := and_both h
  obtain ⟨h3, h4⟩ := and_both h
  refine ⟨He.eqO_ok h1, He.eqO_ok h2, of_decide_eq_true h3, ?_⟩
  unfold pgA
  split at h4
  · rename_i g rest q
    exact ⟨rest, by rw [q]⟩
  · cases h4
/-- a property: class, name, getter -/
structure Gt where
  cn : Str
  f : Str
  d : He.DefD
abbrev AlX : Type := He.AlD × List He.FnW × Bool
def obsX (n : Nat) (fa : List He.Fa) (fn : List He.DefD) (gs : List Gt) (xs : PySem.W.Frag → Bool) (g : Addr → Option Obj) : AlX :=
  (He.obsDG n fa fn g, gs.map (fun q => fnA (He.frG g (He.asD g n)) (pgA (He.frG g (He.asD g n)) q.cn q.f)),
    sysD g && (gs.all (fun q => propB (He.frG g (He.asD g n)) q.cn q.f && okA (He.frG g (He.asD g n)) q.d (pgA (He.frG g (He.asD g n)) q.cn q.f)) && xs (He.frG g (He.asD g n))))
/-- what is known of the module, of its properties, of the rest -/
structure SaysX (fa : List He.Fa) (fn : List He.DefD) (gs : List Gt) (xs : PySem.W.Frag → Bool) (K : PySem.W.Frag) : Prop where
  d : He.SaysD fa fn K
  g : gs.map (fun q => fnA K (pgA K q.cn q.f)) = gs.map (·.d.val)
  p : gs.all (fun q => propB K q.cn q.f && okA K q.d (pgA K q.cn q.f)) = true
  x : xs K = true
theorem SaysX.prop {fa : List He.Fa} {fn : List He.DefD} {gs : List Gt} {xs : PySem.W.Frag → Bool} {K : PySem.W.Frag} (s : SaysX fa fn gs xs K) (i : Nat) {q : Gt} (h : gs[i]? = some q := by rfl) :
    PropOf K (He.ga K q.cn) q.f (He.ma K (He.ga K q.cn) q.f) (pgA K q.cn q.f) ∧ ∃ fd, FunD K q.d.name q.d.qual q.d.params q.d.body q.d.scope (q.d.dvs K) (q.d.kws K) (pgA K q.cn q.f) fd := by
  obtain ⟨a, b⟩ := and_both (List.all_eq_true.mp s.p q (List.mem_of_getElem? h))
  refine ⟨propB_ok a, funA ?_ b⟩
  have e2 : (gs.map (fun q => fnA K (pgA K q.cn q.f)))[i]? = (gs.map (·.d.val))[i]? := by rw [s.g]
  rw [List.getElem?_map, List.getElem?_map, h] at e2
  exact Option.some.inj e2
def hookX (n : Nat) (fa : List He.Fa) (fn : List He.DefD) (gs : List Gt) (xs : PySem.W.Frag → Bool) : PySem.W.Hook where
  α := AlX
  obs := fun s => obsX n fa fn gs xs s.heap.get?
  val := fun _ => (He.valD fn, gs.map (·.d.val), true)
  says := fun _ h => (∃ K : PySem.W.Frag, K.In h ∧ SaysX fa fn gs xs K) ∧ SysB h
  of := fun w s e => by
    obtain ⟨b1, b2⟩ := and_both (congrArg (fun z : AlX => z.2.2) e)
    obtain ⟨b3, b4⟩ := and_both b2
    exact ⟨⟨_, He.frG_in, congrArg (fun z : AlX => z.1) e, congrArg (fun z : AlX => z.2.1) e, b3, b4⟩, sysD_ok b1⟩
  keeps := fun w h h' ⟨⟨K, a, c⟩, o, es, n', e, d⟩ k => ⟨⟨K, PySem.W.Frag.In.keeps a k, c⟩, o, es, n', k _ _ e, d⟩
theorem obsX_eq {n : Nat} {fa : List He.Fa} {fn : List He.DefD} {gs : List Gt} {xs : PySem.W.Frag → Bool} {g : Addr → Option Obj} {s : Shared} (h : ∀ a, g a = s.heap.get? a) : obsX n fa fn gs xs g = (hookX n fa fn gs xs).obs s := by
  have e : g = s.heap.get? := funext h
  rw [e] <;> rfl
end FL

set_option Elab.async false
set_option linter.all false
set_option maxRecDepth 100000
set_option maxHeartbeats 2000000
namespace SrtO
open PySem PyProof.Rows Srt
section
variable {prog : Program} {w : World} {A : Around} {E : Value → Shared → Prop} {s : Shared}
/-- sorted of pairs of ints that stand in a list or a tuple -/
theorem sorted_seqO {it : Addr} {T : String} {o : Obj} {n : Nat} {vs : List Value} {k : Value → Int × Int} {Q : Value → Shared → Prop} (hT : T = "list" ∨ T = "tuple") (ho : s.heap.get? it = some o) (hc : o.cls = .type T) (hd : o.data = .seq vs.toArray n)
    (hz : vs.length ≤ sizeLine) (hp : ∀ v ∈ vs, IsPair s.heap v (k v).1 (k v).2)
    (h : ∀ (h' : Heap) (d : Addr) (out : List Value), Srtd (fun v u => lexB (k v) (k u)) out → Stb (fun v u => lexB (k v) (k u)) out vs → (∀ b o, s.heap.get? b = some o → h'.get? b = some o) → s.heap.get? d = none → (∃ n, h'.get? d = some (seqObj "list" out.toArray n)) → Q (.ref d) { s with heap := h' }) :
    wpAny (model prog w) A (call (.builtin "sorted") [.ref it]) Q E s := by
  refine Calls.call_function_entry kind_sorted plain_sorted entry_sorted (args_sorted1 _) ?_
  unfold Builtin.«sorted»
  refine wpAny_bind (m := checkCount "sorted" 1 1 _) (wpAny_pure ?_)
  refine wpAny_bind (wpAny_collect_seq it hT ho hc hd (fun h1 k1 => ?_) (by rw [List.size_toArray]; exact hz))
  refine wpAny_bind (wpAny_newList ?_ (by simpa using hz))
  have hoL : (h1.push (seqObj "list" vs.toArray 0)).get? h1.objs.size = some (seqObj "list" vs.toArray 0) := Heap.get?_push_size _ rfl
  have kk : ∀ b o, s.heap.get? b = some o → (h1.push (seqObj "list" vs.toArray 0)).get? b = some o := fun b o e => Heap.get?_push_of_some _ (k1 b o e)
  have big : s.heap.get? h1.objs.size = none := by
    cases e : s.heap.get? h1.objs.size with
    | none => rfl
    | some o => exact absurd (Heap.lt_size (k1 _ _ e)) (Nat.lt_irrefl _)
  refine wpAny_bind (wpAny_holding (wpAny_call_entry slot_list_sort ⟨_, hoL, rfl⟩ entry_list_sort (list_sort_ord (swo_lex k) hoL hz (fun h2 => ?_) fun out hs hb => ⟨_, rfl, ?_⟩) (args_list_sort _)))
  · refine pairs_sortableO (by omega) (fun v hm => (hp v hm).keeps fun b o e _ => kk b o e) fun o e => ?_
    have e' : some o = some (seqObj "list" vs.toArray 0) := e.symm.trans hoL
    cases e'
    intro c
    exact absurd (Value.type.inj c) (by decide)
  · refine wpAny_pure ⟨_, rfl, h _ _ out hs hb ?_ big ?_⟩
    · intro b o e
      have hb : b ≠ h1.objs.size := fun z => by subst z; rw [big] at e; cases e
      exact (PyProof.Rows.sortedHeap_old hb (Heap.lt_size (kk b o e))).trans (kk b o e)
    · exact PyProof.Rows.sortedHeap_at (vs := vs) (out := out.toArray) hoL
end
end SrtO

set_option Elab.async false
set_option linter.all false
set_option maxRecDepth 100000
set_option maxHeartbeats 2000000
namespace FL
open PySem PySem.Spec PyProof.Rows L2
/-! ## sorted, of pairs of ints -/
def leP (p q : Int × Int) : Bool := !SrtO.lexB q p
theorem leP_iff {p q : Int × Int} : leP p q = true ↔ p.1 < q.1 ∨ (p.1 = q.1 ∧ p.2 ≤ q.2) := by
  unfold leP
  rw [Bool.not_eq_true', SrtO.lexB_no]
  omega
def sortP (ps : List (Int × Int)) : List (Int × Int) := ps.mergeSort leP
theorem sortP_sorted (ps : List (Int × Int)) : (sortP ps).Pairwise fun a b => leP a b = true := List.pairwise_mergeSort (fun a b c h1 h2 => by
  rw [leP_iff] at h1 h2 ⊢; omega) (fun a b => by
  rw [Bool.or_eq_true, leP_iff, leP_iff]; omega) ps
theorem sortP_perm (ps : List (Int × Int)) : (sortP ps).Perm ps := List.mergeSort_perm ps leP
theorem sortP_uniq {l ps : List (Int × Int)} (h : l.Pairwise fun a b => leP a b = true) (p : l.Perm ps) : l = sortP ps :=
  List.Perm.eq_of_pairwise (fun a b _ _ h1 h2 => by
    rw [leP_iff] at h1 h2
    exact Prod.ext (by omega) (by omega)) h (sortP_sorted ps) (p.trans (sortP_perm ps).symm)
/-- the pair that stands at u -/
def kH (h : Heap) (u : Value) : Int × Int := match u with
  | .ref t => (match h.get? t with
    | some o => (match o.data with
      | .seq vs _ => (match vs.toList with
        | [.int x _, .int y _] => (x, y)
        | _ => (0, 0))
      | _ => (0, 0))
    | none => (0, 0))
  | _ => (0, 0)
def rSortP (K : PySem.W.Frag) : List V → Hp → VK → Prop := fun vs H Q => ∃ (a : Addr) (xs : List V) (ps : List (Int × Int)), vs = [V.ref a] ∧ (SqL K H a xs ∨ SqT K H a xs) ∧ xs.length = ps.length ∧
  (∀ z ∈ xs.zip ps, ∃ t, z.1 = V.ref t ∧ SqT K H t [.int z.2.1, .int z.2.2]) ∧ ∀ (zs : List (V × (Int × Int))) p, (∀ z ∈ zs, z ∈ xs.zip ps) → zs.map (·.2) = sortP ps → H p = none → Q (.ref p) (upd H p (.lst (zs.map (·.1))))
theorem obj_there {P : Program} {w : World} {H : Hp} {h : Heap} {a : Addr} : ∀ {o : HO}, ObjOk P w H h a o → ∃ ob, h.get? a = some ob := by
  intro o x
  cases o with
  | lst xs => obtain ⟨z, its, n, r, e⟩ := x; exact ⟨_, e⟩
  | tup xs => obtain ⟨z, its, r, ob, e, c⟩ := x; exact ⟨_, e⟩
  | dK kvs => obtain ⟨z, y, vs, r, ob, es, ep, e, c⟩ := x; exact ⟨_, e⟩
  | dT kvs => obtain ⟨z, y, xs, r, ob, es, ep, e, c⟩ := x; exact ⟨_, e⟩
  | set S n => obtain ⟨ob, es, ep, t, e, c⟩ := x; exact ⟨_, e⟩
  | ins C dx fs => obtain ⟨d, z, ne, e, r⟩ := x; exact ⟨_, e⟩
  | own y => exact x
  | xd fs => obtain ⟨mA, ⟨od, es, ep, e, c⟩, r⟩ := x; exact ⟨_, e⟩
  | rng lo hi => obtain ⟨t, u, v, e⟩ := x; exact ⟨_, e⟩
  | frz ob u => obtain ⟨e, q⟩ := x; exact ⟨_, e⟩
  | tbl ps => exact ⟨_, x⟩
  | met f y => exact ⟨_, x⟩
  | ext φ => exact x.2.1
section
variable {X : Cx}
theorem kh_at {pins : List (Addr × Obj)} {σ : L2.St} {H : Hp} {s : Shared} (I : Inv X pins σ H s) {t : Addr} {x y : Int} (h : SqT X.K H t [.int x, .int y]) : kH s.heap (.ref t) = (x, y) ∧ Srt.IsPair s.heap (.ref t) x y := by
  obtain ⟨its, rv, ⟨o, ho, hc, n, hd⟩, _⟩ := I.tuple h
  obtain ⟨u1, u2, rfl, ⟨t1, rfl⟩, ⟨t2, rfl⟩⟩ := vals2 rv
  refine ⟨?_, t, o, t1, t2, n, rfl, ho, hc, hd⟩
  unfold kH
  simp only [ho, hd]
theorem kh_all {pins : List (Addr × Obj)} {σ : L2.St} {H : Hp} {s : Shared} (I : Inv X pins σ H s) : ∀ {xs : List V} {its : List Value} {ps : List (Int × Int)}, Vals xs its → xs.length = ps.length → (∀ z ∈ xs.zip ps, ∃ t, z.1 = V.ref t ∧ SqT X.K H t [.int z.2.1, .int z.2.2]) →
    its.map (kH s.heap) = ps ∧ ∀ u ∈ its, Srt.IsPair s.heap u (kH s.heap u).1 (kH s.heap u).2
  | [], _, [], .nil, _, _ => ⟨rfl, fun _ h => by cases h⟩
  | x :: xs, _, p :: ps, .cons rx r, hl, h => by
    obtain ⟨e, t⟩ := kh_all I r (by simpa using hl) fun z hz => h z (List.mem_cons_of_mem _ hz)
    obtain ⟨a, ex, sq⟩ := h (x, p) List.mem_cons_self
    have ex' : x = V.ref a := ex
    subst ex'
    obtain ⟨k1, k2⟩ := kh_at I sq
    cases rx
    refine ⟨by rw [List.map_cons, e, k1], fun u hu => ?_⟩
    rcases List.mem_cons.mp hu with rfl | hu
    · rw [k1]; exact k2
    · exact t u hu
  | [], _, _ :: _, _, hl, _ => by cases hl
  | _ :: _, _, [], _, hl, _ => by cases hl
theorem cr_sortP : CallR X (.builtin "sorted") (rSortP X.K) := by
  intro pins s σ H vs us Q I r h
  obtain ⟨a, xs, ps, rfl, hs, hl, hx, q⟩ := h
  obtain ⟨u, rfl, ru⟩ := vals1 r
  obtain rfl : u = Value.ref a := ru
  obtain ⟨its, rv, T, hT, o, n, ho, hc, hd, hz⟩ : ∃ its, Vals xs its ∧ ∃ T, (T = "list" ∨ T = "tuple") ∧ ∃ o n, s.heap.get? a = some o ∧ o.cls = .type T ∧ o.data = .seq its.toArray n ∧ its.length ≤ sizeLine := by
    rcases hs with hs | hs
    · obtain ⟨its, rv, pl, hz⟩ := I.list hs
      obtain ⟨o, ho, hc, n, hd⟩ := pl.isList
      exact ⟨its, rv, "list", .inl rfl, o, n, ho, hc, hd, by rw [← rv.length]; exact hz⟩
    · obtain ⟨its, rv, ⟨o, ho, hc, n, hd⟩, hz⟩ := I.tuple hs
      exact ⟨its, rv, "tuple", .inr rfl, o, n, ho, hc, hd, by first | exact hz | (rw [← rv.length]; exact hz)⟩
  obtain ⟨e, pr⟩ := kh_all I rv hl hx
  obtain ⟨e1, e2⟩ := refs_back rv fun x m => by
    obtain ⟨i, hi, rfl⟩ := List.getElem_of_mem m
    obtain ⟨t, ht, _⟩ := hx (xs[i], ps[i]'(by omega)) (by
      have : (xs.zip ps)[i]'(by rw [List.length_zip]; omega) = (xs[i], ps[i]'(by omega)) := List.getElem_zip
      rw [← this]
      exact List.getElem_mem _)
    exact ⟨t, ht⟩
  refine SrtO.sorted_seqO (k := kH s.heap) hT ho hc hd hz pr fun h' d out h1 h2 kp hn ⟨m, hm⟩ => ?_
  have h3 : ∀ u ∈ out, ∃ a, u = Value.ref a := fun u hu => e2 u (h2.perm.mem_iff.mp hu)
  have hfree : H d = none := by
    cases e : H d with
    | none => rfl
    | some ob =>
      obtain ⟨u, z⟩ := obj_there (I.hok d ob e)
      rw [hn] at z; cases z
  have hz' : xs.zip ps = its.map fun u => (backV u, kH s.heap u) := by
    rw [← e, e1, List.zip_map']
  have sp : out.map (kH s.heap) = sortP ps := by
    refine sortP_uniq ?_ (by rw [← e]; exact h2.perm.map _)
    rw [List.pairwise_map]
    refine List.Pairwise.imp ?_ h1
    intro x y hxy
    unfold leP
    simpa using hxy
  have key := q (out.map fun u => (backV u, kH s.heap u)) d (fun z hz => by
    rw [hz']
    obtain ⟨u, hu, rfl⟩ := List.mem_map.mp hz
    exact List.mem_map.mpr ⟨u, h2.perm.mem_iff.mp hu, rfl⟩) (by rw [List.map_map]; exact sp) hfree
  rw [List.map_map] at key
  refine ⟨.ref d, upd H d (.lst (out.map backV)), Inv.laidN (t' := s.toks) I kp hn hfree ⟨by rw [List.length_map, h2.perm.length_eq]; exact hz, out, m, vals_back h3, hm⟩, rfl, key⟩
end
def tupP (p : Int × Int) : D := .tup [.int p.1, .int p.2]
def pairD : D → Option (Int × Int)
  | .tup [.int a, .int b] => some (a, b)
  | _ => none
def pairsD : List D → Option (List (Int × Int))
  | [] => some []
  | d :: r => match pairD d with
    | some p => (match pairsD r with
      | some ps => some (p :: ps)
      | none => none)
    | none => none
theorem pairD_eq {d : D} {p : Int × Int} (h : pairD d = some p) : d = tupP p := by
  unfold pairD at h
  split at h
  · cases h; rfl
  · cases h
theorem pairs_rel {K : PySem.W.Frag} {S : Hp} : ∀ {ds : List D} {vs : List V} {ps : List (Int × Int)}, RelDs K S ds vs → pairsD ds = some ps → vs.length = ps.length ∧ ∀ z ∈ vs.zip ps, RelD K S (tupP z.2) z.1
  | _, _, _, .nil, h => by
    cases h
    exact ⟨rfl, fun _ z => by cases z⟩
  | d :: ds, v :: vs, _, .cons r rs, h => by
    unfold pairsD at h
    split at h
    · rename_i p q
      split at h
      · rename_i ps q2
        cases h
        obtain ⟨a, b⟩ := pairs_rel rs q2
        refine ⟨by simp [a], fun z hz => ?_⟩
        rcases List.mem_cons.mp hz with rfl | hz
        · rw [← pairD_eq q]; exact r
        · exact b z hz
      · cases h
    · cases h
theorem rel_pairs {K : PySem.W.Frag} {S : Hp} : ∀ {zs : List (V × (Int × Int))}, (∀ z ∈ zs, RelD K S (tupP z.2) z.1) → RelDs K S ((zs.map (·.2)).map tupP) (zs.map (·.1))
  | [], _ => .nil
  | z :: zs, h => .cons (h z List.mem_cons_self) (rel_pairs fun y hy => h y (List.mem_cons_of_mem _ hy))
theorem sqT_of {K : PySem.W.Frag} {S H : Hp} {p : Int × Int} {v : V} (h : RelD K S (tupP p) v) (hs : Same S H) : ∃ t, v = V.ref t ∧ SqT K H t [.int p.1, .int p.2] := by
  unfold tupP at h
  cases h with
  | tup h r =>
    cases r with
    | cons r1 r => cases r with
      | cons r2 r => cases r; cases r1; cases r2; exact ⟨_, rfl, (h.same hs).sq⟩
/-- sorted(x), x a list or a tuple of pairs of ints -/
def gSortP : List D → Option D
  | [.lst ds] => (match pairsD ds with
    | some ps => some (.lst ((sortP ps).map tupP))
    | none => none)
  | [.tup ds] => (match pairsD ds with
    | some ps => some (.lst ((sortP ps).map tupP))
    | none => none)
  | _ => none
theorem on_sortP {K : PySem.W.Frag} : OpN K (rSortP K) gSortP := by
  intro S H ds z xs Q q rs hs kv ka
  have key : ∀ {es : List D} {vs : List V} {ps : List (Int × Int)} {a : Addr}, RelDs K S es vs → pairsD es = some ps → (SqL K H a vs ∨ SqT K H a vs) → z = .lst ((sortP ps).map tupP) → rSortP K [V.ref a] H Q := fun {es vs ps a} r e sq ez => by
    obtain ⟨hl, hz⟩ := pairs_rel r e
    refine ⟨a, vs, ps, rfl, sq, hl, fun y hy => sqT_of (hz y hy) hs, fun zs p hzs hm hp => ka p _ hp ?_⟩
    subst ez
    refine .lst upd_same ?_
    rw [← hm]
    exact (rel_pairs fun y hy => hz y (hzs y hy)).mono (same_upd (hs.free hp))
  unfold gSortP at q
  split at q
  · split at q
    · rename_i es ps e
      cases q
      cases rs with
      | cons r1 rs => cases rs; cases r1 with
        | lst h r => exact key r e (.inl (.of (hs _ _ h))) rfl
    · cases q
  · split at q
    · rename_i es ps e
      cases q
      cases rs with
      | cons r1 rs => cases rs; cases r1 with
        | tup h r => exact key r e (.inr (h.same hs).sq) rfl
    · cases q
  · cases q
theorem f_sorted {X : Cx} {c : Ct} {a : Expr} {p pos : Pos} {f : M (List D)} (ha : FA X c [a] f) (hg : Gl X "sorted") (hm : X.mg "sorted" = none) (he : starEach [a] X.env = (false, eval a X.env) :: starEach [] X.env := by rfl) (hpl : (backTo pos (starEach ([] : List Expr) X.env)).any (·.1) = false := by rfl) :
    FE X c (.Call (.Name "sorted" p) [a] [] pos) (mMk gSortP f) := f_blt cr_sortP on_sortP ha hg hm (by decide +kernel) (by decide) (by decide) he hpl
end FL

set_option Elab.async false
set_option linter.all false
set_option maxRecDepth 100000
set_option maxHeartbeats 2000000
namespace FL
open PySem PySem.Spec PyProof.Rows L2
/-! ## operators by a class's own methods -/
/-- e in o -/
def rInO (cn : Str) (K : PySem.W.Frag) (φ : Fn) : R2 := fun x y H Q => ∃ a dx fs, y = .ref a ∧ H a = some (.ins (He.ga K cn) dx fs) ∧ spF K φ [y, x] H (fun v H' => ∃ b, v = .bl b ∧ Q (.bl b) H') E0
/-- o op e -/
def rOpO (cn : Str) (K : PySem.W.Frag) (φ : Fn) : R2 := fun x y H Q => ∃ a dx fs b dy gs, x = .ref a ∧ y = .ref b ∧ H a = some (.ins (He.ga K cn) dx fs) ∧ H b = some (.ins (He.ga K cn) dy gs) ∧ spF K φ [x, y] H Q E0
theorem back_of {R : Value → Shared → Prop} {z : V} {r : Value} {s : Shared} (rz : RelV z r) (h : R r s) : PySem.W.CmpBack R r s := by
  cases r <;> first | exact h | (exfalso; cases z <;> first | (obtain ⟨t, e⟩ := rz; cases e) | (cases (show _ = _ from rz)))
section
variable {X : Cx} {c : Ct} {k : Nat} {f : Addr} {fd : FuncData} {ps : List Str} {φ : Fn} {cn : Str} {a b : Expr} {pos : Pos} {fa fb : M D}
theorem op_inO (F : FnOk X.prog X.w X.K X.mg X.base CX0 k f fd ps (spF X.K φ)) (hm : Meth X.K (He.ga X.K cn) "__contains__" f) (room : Room k X.A) (hb : Binds X.K fd ps []) : OpR X (compareOp .In) (rInO cn X.K φ) := by
  intro pins s σ H x y v u Q I rx ry h
  obtain ⟨a, dx, fs, rfl, ha, hsp⟩ := h
  cases ry
  obtain ⟨mA, J, _⟩ := ins_get I.hok ha
  obtain ⟨od, J, _⟩ := J.look
  obtain ⟨m, hF⟩ := I.fr
  refine PySem.W.in_K hF I.ok.mod.kin J hm.at_ hm.fn (wpAny_mono (run_fn (vs := [.ref a, x]) F room hb .nil pass0 I (.cons rfl (.cons rx .nil)) hsp) (fun r s' q => ?_) fun _ _ z => z)
  obtain ⟨z, H', I', rz, b, ez, q⟩ := q
  subst ez
  cases rz
  exact wpAny_pure ⟨.bl b, H', I', rfl, q⟩
theorem op_binO {op : Operator} (F : FnOk X.prog X.w X.K X.mg X.base CX0 k f fd ps (spF X.K φ)) (hm : Meth X.K (He.ga X.K cn) (PySem.dunder op.info.2) f) (hs : PySem.W.selfFirst X.K (He.ga X.K cn) = true) (room : Room k X.A) (hb : Binds X.K fd ps []) : OpR X (binaryOp op) (rOpO cn X.K φ) := by
  intro pins s σ H x y v u Q I rx ry h
  obtain ⟨a, dx, fs, b, dy, gs, rfl, rfl, ha, hb', hsp⟩ := h
  cases rx
  cases ry
  obtain ⟨mA, J, _⟩ := ins_get I.hok ha
  obtain ⟨mB, J', _⟩ := ins_get I.hok hb'
  obtain ⟨od, J, _⟩ := J.look
  obtain ⟨od', J', _⟩ := J'.look
  obtain ⟨m, hF⟩ := I.fr
  refine PySem.W.binop_K hF I.ok.mod.kin J J'.type hs hm.at_ hm.fn (wpAny_mono (run_fn (vs := [.ref a, .ref b]) F room hb .nil pass0 I (.cons rfl (.cons rfl .nil)) hsp) (fun r s' q => ?_) fun _ _ z => z)
  have q0 := q
  obtain ⟨z, H', I', rz, _⟩ := q
  exact back_of rz q0
theorem op_eqO (F : FnOk X.prog X.w X.K X.mg X.base CX0 k f fd ps (spF X.K φ)) (hm : Meth X.K (He.ga X.K cn) "__eq__" f) (room : Room k X.A) (hb : Binds X.K fd ps []) : OpR X (compareOp .Eq) (rOpO cn X.K φ) := by
  intro pins s σ H x y v u Q I rx ry h
  obtain ⟨a, dx, fs, b, dy, gs, rfl, rfl, ha, hb', hsp⟩ := h
  cases rx
  cases ry
  obtain ⟨mA, J, _⟩ := ins_get I.hok ha
  obtain ⟨mB, J', _⟩ := ins_get I.hok hb'
  obtain ⟨od, J, _⟩ := J.look
  obtain ⟨od', J', _⟩ := J'.look
  obtain ⟨m, hF⟩ := I.fr
  refine PySem.W.cmp_K (op := .Eq) (tb := .ref (He.ga X.K cn)) room.units0 hF I.ok.mod.kin J J'.type (by simp [PySem.W.notFirst]) hm.at_ hm.fn (wpAny_mono (run_fn (vs := [.ref a, .ref b]) F room hb .nil pass0 I (.cons rfl (.cons rfl .nil)) hsp) (fun r s' q => ?_) fun _ _ z => z)
  have q0 := q
  obtain ⟨z, H', I', rz, _⟩ := q
  exact back_of rz q0
/-- e in o -/
def mInO (cn : Str) (φ : Fn) (fa fb : M D) : M D := fun e => match fa e with
  | some (d, e1) => (match fb e1 with
    | some (.obj c fs, e2) => if c = cn then (match φ [.sh (.obj c fs), .sh d] with
      | some (.bl b, _) => some (.bl b, e2)
      | _ => none) else none
    | _ => none)
  | none => none
/-- o op o' -/
def mOpO (cn : Str) (φ : Fn) (fa fb : M D) : M D := fun e => match fa e with
  | some (.obj c fs, e1) => (match fb e1 with
    | some (.obj c' gs, e2) => if c = cn ∧ c' = cn then (match φ [.sh (.obj c fs), .sh (.obj c' gs)] with
      | some (d, _) => some (d, e2)
      | none => none) else none
    | _ => none)
  | _ => none
theorem f_inO (F : FnOk X.prog X.w X.K X.mg X.base CX0 k f fd ps (spF X.K φ)) (hm : Meth X.K (He.ga X.K cn) "__contains__" f) (room : Room k X.A) (hb : Binds X.K fd ps []) (ha : FE X c a fa) (hbb : FE X c b fb) (hbi : behindInMarks .In b = false := by rfl) :
    FE X c (.Compare a [.In] [b] pos) (mInO cn φ fa fb) := (pe_cmpR (op_inO F hm room hb) ha hbb hbi).weak fun σ H Q ⟨S, env, d, env', E, e1, kk⟩ => by
  unfold mInO at e1
  split at e1
  · rename_i da ea qa
    split at e1
    · rename_i c' fs eb qb
      split at e1
      · rename_i hc
        subst hc
        split at e1
        · rename_i r e3 q2
          cases e1
          refine ⟨S, env, da, ea, E, qa, fun S1 H1 v1 E1 s1 r1 => ⟨S1, ea, _, _, E1, qb, fun S2 H2 v2 E2 s2 r2 => ?_⟩⟩
          have r2' := r2
          cases r2 with
          | obj h r =>
            refine ⟨_, _, _, rfl, E2.sub _ _ h, ?_⟩
            refine ⟨_, S2, _, _, _, ER.args E2.sub (.cons r2' (.cons (r1.mono s2) .nil)), q2, fun S3 H3 v E3 s3 r3 => ?_⟩
            cases r3
            exact ⟨_, rfl, kk S3 H3 _ (E2.grow E3.s0 E3.sub E3.dom (fun b o z => E3.kep b o z fun _ z => nomatch z) E3.frs) ((s1.trans s2).trans s3) (.bl _)⟩
        · cases e1
      · cases e1
    · cases e1
  · cases e1
theorem t_opO (σ : L2.St) (H : Hp) (Q : VK) (h : tM X.K c (mOpO cn φ fa fb) σ H Q) : tOp (rOpO cn X.K φ) (tM X.K c fa) (tM X.K c fb) σ H Q := by
  obtain ⟨S, env, d, env', E, e1, kk⟩ := h
  unfold mOpO at e1
  split at e1
  · rename_i c1 fs ea qa
    split at e1
    · rename_i c' gs eb qb
      split at e1
      · rename_i hc
        obtain ⟨rfl, rfl⟩ := hc
        split at e1
        · rename_i r e3 q2
          cases e1
          refine ⟨S, env, _, ea, E, qa, fun S1 H1 v1 E1 s1 r1 => ⟨S1, ea, _, _, E1, qb, fun S2 H2 v2 E2 s2 r2 => ?_⟩⟩
          have r2' := r2
          have r1' := r1.mono s2
          cases r2 with
          | obj h r => cases r1 with
            | obj h1 r1 =>
              refine ⟨_, _, _, _, _, _, rfl, rfl, E2.sub _ _ (s2 _ _ h1), E2.sub _ _ h, ?_⟩
              refine ⟨_, S2, _, _, _, ER.args E2.sub (.cons r1' (.cons r2' .nil)), q2, fun S3 H3 v E3 s3 r3 => ?_⟩
              exact kk S3 H3 _ (E2.grow E3.s0 E3.sub E3.dom (fun b o z => E3.kep b o z fun _ z => nomatch z) E3.frs) ((s1.trans s2).trans s3) r3
        · cases e1
      · cases e1
    · cases e1
  · cases e1
theorem f_binO {op : Operator} (F : FnOk X.prog X.w X.K X.mg X.base CX0 k f fd ps (spF X.K φ)) (hm : Meth X.K (He.ga X.K cn) (PySem.dunder op.info.2) f) (hs : PySem.W.selfFirst X.K (He.ga X.K cn) = true) (room : Room k X.A) (hb : Binds X.K fd ps []) (ha : FE X c a fa) (hbb : FE X c b fb) :
    FE X c (.BinOp a op b pos) (mOpO cn φ fa fb) := (pe_op (op_binO F hm hs room hb) ha hbb).weak t_opO
theorem f_eqO (F : FnOk X.prog X.w X.K X.mg X.base CX0 k f fd ps (spF X.K φ)) (hm : Meth X.K (He.ga X.K cn) "__eq__" f) (room : Room k X.A) (hb : Binds X.K fd ps []) (ha : FE X c a fa) (hbb : FE X c b fb) (hbi : behindInMarks .Eq b = false := by rfl) :
    FE X c (.Compare a [.Eq] [b] pos) (mOpO cn φ fa fb) := (pe_cmpR (op_eqO F hm room hb) ha hbb hbi).weak t_opO
end
end FL
namespace FL
open PySem PySem.Spec PyProof.Rows L2
section
variable {X : Cx} {c : Ct} {k : Nat} {f : Addr} {φ : Fn} {cn x : Str} {p pos : Pos}
/-- C(), __init__(self, *v) -/
theorem fo_makeS0 (M : Mk X.K (He.ga X.K cn) f) (F : FnR X.prog X.w X.K X.mg X.base CX0 k f (spS X.K φ)) (room : Room (k + 1) X.A) (gl : Gl X x) (hm : X.mg x = some (.ref (He.ga X.K cn)))
    (hdb : (x == ("__debug__" : Str)) = false := by decide) : FO X c (.Call (.Name x p) [] [] pos) (mMakeS cn φ mNil) := by
  have key : PE X (.Call (.Name x p) [] [] pos) (StX.tMakeR (He.ga X.K cn) (spS X.K φ) E0 tNil) := by
    refine ⟨fun pins s σ H Q I h => ?_⟩
    refine wpAny_Call_Name_kw (ld_glob I gl hm ?_ hdb)
    exact PySem.W.callWith_K0 I.kIn M.kp (StX.run_makeR (us := []) M F room pass0 I .nil h)
  exact key.weak fun σ H Q h => by
    obtain ⟨S, env, ds, env', E, q, kk⟩ := t_makeS M σ H Q h
    cases q
    exact kk S H [] E (Same.refl _) .nil
end
end FL

set_option Elab.async false
set_option linter.all false
set_option maxRecDepth 100000
set_option maxHeartbeats 2000000
namespace FL
open PySem PySem.Spec PyProof.Rows L2
/-! ## range(i, j, c) -/
def stepTo (i c : Int) (n : Nat) : List D := (List.range n).map fun (k : Nat) => D.int (i + (k : Int) * c)
theorem stepTo_drop {i c : Int} {n k : Nat} (h : k < n) : (stepTo i c n).drop k = .int (i + (k : Int) * c) :: (stepTo i c n).drop (k + 1) := by
  have e : (List.range n).drop k = k :: (List.range n).drop (k + 1) := by
    rw [List.drop_eq_getElem_cons (by simpa using h)]
    simp
  unfold stepTo
  rw [← List.map_drop, ← List.map_drop, e]
  rfl
noncomputable def rg3Ok (i j c : Int) : Bool := chk (c ≠ 0 ∧ c.natAbs < 1073741824 ∧ Builtin.Range.small i j c = true ∧ 0 ≤ Builtin.Range.rangeSize i j c)
noncomputable def sForR3 (f : M (List D)) (set : FG) (body : FS) : FS := fun e => match f e with
  | some ([.int i, .int j, .int c], e1) => bif rg3Ok i j c then loopF set body (stepTo i c (Builtin.Range.rangeSize i j c).toNat) e1 else none
  | _ => none
section
variable {X : Cx} {c : Ct} {tg a b d : Expr} {body : List Stmt} {pos p : Pos} {set : FG} {fb : FS}
theorem fs_forR3 {f : M (List D)} (hp : PassesOwn (model X.prog X.w) X.A X.env X.xe) (hc : X.calm = true) (hl : FA X c [a, b, d] f) (hg : FGt X c tg set) (hb : FSs X c body fb) (gl : Gl X "range") (hm : X.mg "range" = none)
    (hs : starEach [a, b, d] X.env = (false, eval a X.env) :: starEach [b, d] X.env := by rfl) {p2 : Pos} (hpl : (backTo p2 (starEach [b, d] X.env)).any (·.1) = false := by rfl)
    (hs2 : ∀ x, foldedSetIterable (.Call (.Name "range" p) [a, b, d] [] p2) X.env x = pure x := by intro _; rfl) : FSt X c (.For tg (.Call (.Name "range" p) [a, b, d] [] p2) body [] pos) (sForR3 f set fb) :=
  (ps_for hp hc (pi_range3 gl hm hl hs hpl) hg hb hs2).weak fun D' σ H ⟨S, env, o, E, e1, k⟩ => by
    unfold sForR3 at e1
    split at e1
    · rename_i i j st e2 q
      obtain ⟨hr, e1⟩ : rg3Ok i j st = true ∧ loopF set fb (stepTo i st (Builtin.Range.rangeSize i j st).toNat) e2 = some o := by
        cases hr : rg3Ok i j st with
        | false => rw [hr] at e1; cases e1
        | true => rw [hr] at e1; exact ⟨rfl, e1⟩
      obtain ⟨h1, h2, h3, h4⟩ := chk_of hr
      refine ⟨S, env, _, e2, E, q, fun S1 H1 vs E1 s1 r1 => ?_⟩
      cases r1 with
      | cons r1 rn => cases rn with
        | cons r2 rn => cases rn with
          | cons r3 rn =>
            cases rn; cases r1; cases r2; cases r3
            refine ⟨i, j, st, (Builtin.Range.rangeSize i j st).toNat, rfl, ⟨h1, h2, h3, (Int.toNat_of_nonneg h4).symm⟩, for_rangeC (lo := i) (c := st) (n := (Builtin.Range.rangeSize i j st).toNat) (fun k σ H => ∃ S2 e, Er X.K c S2 H σ e ∧ Same S1 S2 ∧ loopF set fb ((stepTo i st (Builtin.Range.rangeSize i j st).toNat).drop k) e = some o) ⟨S1, e2, E1, Same.refl _, by rw [List.drop_zero]; exact e1⟩ ?_ ?_⟩
            · rintro k' σ' H' hi ⟨S2, e, E2, s2, q2⟩
              rw [stepTo_drop hi] at q2
              exact loop_turn (S := S1) E2 s2 (.int _) q2 (fun S3 H3 σ3 e3 E3 s3 q3 => ⟨S3, e3, E3, s3, q3⟩) (k.mono s1)
            · rintro σ' H' ⟨S2, e, E2, s2, q2⟩
              rw [List.drop_eq_nil_of_le (by unfold stepTo; simp)] at q2
              cases q2
              exact k S2 H' σ' E2 (s1.trans s2)
    · cases e1
end
section
variable {X : Cx} {c : Ct} {pos : Pos}
/-- {i: j}, written ints -/
def mDic1 (i j : Int) : M D := fun e => some (.dic [(.inl i, .int j)], e)
theorem fo_dic1 {keys : List (Option Expr)} {values : List Expr} (i j : Int) (h : PPs X pos keys values [(tC (.int i), tC (.int j))]) (hall : keys.all (·.isSome) = true) (hl : keys.length = values.length) (h0 : keys ≠ []) (h15 : keys.length ≤ 15) :
    FO X c (.Dict keys values pos) (mDic1 i j) := (pe_disp h hall hl h0 h15).weak fun σ H Q ⟨S, env, d, env', E, e1, kk⟩ => by
  cases e1
  intro p hp
  refine ⟨upd_same, [(.inl i, .int j)], rfl, by simp, ?_⟩
  rw [upd_upd]
  refine kk S _ p (E.lay _ hp) (Same.refl _) ⟨[(.inl i, .int j)], upd_same, .cons (.int j) .nil⟩ (E.sub.free hp) ?_ fun j f e q z => ?_
  · cases ez : c.H0 p with
    | none => rfl
    | some o => exact absurd hp (E.dom p (by rw [ez]; exact fun z => nomatch z))
  · obtain ⟨p1, a1, o1, _⟩ := E.ow j f e q
    rw [a1] at z; cases z
    exact o1.there hp
end
end FL

set_option Elab.async false
set_option linter.all false
set_option maxRecDepth 100000
set_option maxHeartbeats 2000000
namespace FL
open PySem PySem.Spec PyProof.Rows L2

/-! ## stars in displays and calls -/
def seqD : D → Option (List D)
  | .lst xs => some xs
  | .tup xs => some xs
  | _ => none
def mStar (fa : M D) (fr : M (List D)) : M (List D) := fun e => match fa e with
  | some (d, e1) => (match seqD d with
    | some ds => (match fr e1 with
      | some (es, e2) => some (ds ++ es, e2)
      | none => none)
    | none => none)
  | none => none
theorem seq_rel {K : PySem.W.Frag} {S H : Hp} {d : D} {ds : List D} {v : V} (r : RelD K S d v) (h : seqD d = some ds) (hs : Same S H) : ∃ p vs, v = V.ref p ∧ (SqT K H p vs ∨ SqL K H p vs) ∧ RelDs K S ds vs := by
  cases r <;> first | (cases h; done) | skip
  · rename_i h1 rs; cases h; exact ⟨_, _, rfl, .inr (.of (hs _ _ h1)), rs⟩
  · rename_i h1 rs; cases h; exact ⟨_, _, rfl, .inl (h1.same hs).sq, rs⟩
section
variable {X : Cx} {c : Ct} {e : Expr} {es : List Expr} {k : Nat} {f : Addr} {φ : Fn} {cn x : Str} {p pos sp_ : Pos} {fe : M D} {fr : M (List D)}
theorem t_star (σ : L2.St) (H : Hp) (Q : List V → Hp → Prop) (h : tMs X.K c (mStar fe fr) σ H Q) : StX.tStar X.K (tM X.K c fe) (tMs X.K c fr) σ H Q := by
  obtain ⟨S, env, d, env', E, e1, k⟩ := h
  unfold mStar at e1
  split at e1
  · rename_i da ea qa
    split at e1
    · rename_i ds qs
      split at e1
      · rename_i zs ez qz
        cases e1
        refine ⟨S, env, da, ea, E, qa, fun S1 H1 v1 E1 s1 r1 => ?_⟩
        obtain ⟨p, vs, rfl, hsq, rs⟩ := seq_rel r1 qs E1.sub
        exact ⟨p, vs, rfl, hsq, S1, ea, zs, _, E1, qz, fun S2 H2 v2 E2 s2 r2 => k S2 H2 _ E2 (s1.trans s2) ((rs.mono s2).append r2)⟩
      · cases e1
    · cases e1
  · cases e1
theorem fa_star (he : FE X c e fe) (hr : FA X c es fr) (hs : starEach (.Starred e p :: es) X.env = (true, eval e X.env) :: starEach es X.env := by rfl) : FA X c (.Starred e p :: es) (mStar fe fr) :=
  (StX.pa_star he hr hs).weak t_star
/-- C(*e) -/
theorem pe_makeSt {CX : CXT} {C : Addr} {sp : Sp} {E : XK} {te : TE} (M : Mk X.K C f) (F : FnR X.prog X.w X.K X.mg X.base CX k f sp) (hr : Room (k + 1) X.A) (hg : Gl X x) (hm : X.mg x = some (.ref C)) (hx : Passes CX X E) (he : PE X e te) (hd : (x == ("__debug__" : Str)) = false := by decide)
    (hst : starEach [.Starred e sp_] X.env = [(true, eval e X.env)] := by rfl) : PE X (.Call (.Name x p) [.Starred e sp_] [] pos) (StX.tMakeR C sp E (StX.tStar X.K te tNil)) := by
  refine ⟨fun pins s σ H Q I h => ?_⟩
  refine wpAny_Call_Name_kw (ld_glob I hg hm ?_ hd)
  refine PySem.W.callWith_S (h₀ := X.base) I.ok.mod.kin M.kp (thn (he.run pins s σ H _ I h) fun v s1 ⟨y, H1, I1, ry, a, xs, ey, hxs, q⟩ => ?_) hst
  subst ey
  obtain rfl : v = Value.ref a := ry
  refine StX.star_any I1 hxs fun us s2 I2 rv => ⟨I2.kIn, ?_⟩
  exact StX.run_makeR (us := us) (vs := xs ++ []) M F hr hx I2 (by rw [List.append_nil]; exact rv) q
theorem fo_makeSt (M : Mk X.K (He.ga X.K cn) f) (F : FnR X.prog X.w X.K X.mg X.base CX0 k f (spS X.K φ)) (room : Room (k + 1) X.A) (gl : Gl X x) (hm : X.mg x = some (.ref (He.ga X.K cn))) (he : FE X c e fe)
    (hd : (x == ("__debug__" : Str)) = false := by decide) (hst : starEach [.Starred e sp_] X.env = [(true, eval e X.env)] := by rfl) : FO X c (.Call (.Name x p) [.Starred e sp_] [] pos) (mMakeS cn φ (mStar fe mNil)) :=
  (pe_makeSt M F room gl hm pass0 he hd hst).weak fun σ H Q h => by
    have h1 := t_makeS M σ H Q h
    have h2 := t_star σ H _ h1
    obtain ⟨S, env, d, env', E, e1, kk⟩ := h2
    refine ⟨S, env, d, env', E, e1, fun S1 H1 v E1 s1 r1 => ?_⟩
    obtain ⟨p, xs, ev, hx, S2, env2, ds, env3, E2, q2, k2⟩ := kk S1 H1 v E1 s1 r1
    cases q2
    exact ⟨p, xs, ev, hx, k2 S2 H1 [] E2 (Same.refl _) .nil⟩
end

/-! ## None -/
def isNonD : D → Bool
  | .non => true
  | _ => false
def gIsN : D → Option D := fun d => some (.bl (isNonD d))
def gNotN : D → Option D := fun d => some (.bl (!isNonD d))
theorem non_vw {K : PySem.W.Frag} {S H : Hp} {d : D} {v : V} (w : Vw K S H d v) : decide (v = V.non) = isNonD d := by
  rcases w with w | ⟨p, rfl, w⟩
  · cases w <;> first | rfl | exact decide_eq_false (fun z => nomatch z)
  · cases d <;> first | exact w.elim | exact decide_eq_false (fun z => nomatch z)
section
variable {X : Cx} {c : Ct} {a b : Expr} {pos pos' : Pos} {fa : M Hd} {j}
theorem t_isN (g : D → Option D) (r : V → Bool) (hr : ∀ (S H : Hp) (d z : D) (v : V), g d = some z → Vw X.K S H d v → z = .bl (r v)) (σ : L2.St) (H : Hp) (Q : VK) (h : tM X.K c (m1H g fa) σ H Q) : tOp (fun x y H Q => y = .non ∧ Q (.bl (r x)) H) (tH X.K c fa) (tC .non) σ H Q := by
  obtain ⟨S, env, d, env', E, e1, k⟩ := h
  unfold m1H at e1
  split at e1
  · cases e1
  · rename_i da ea qa
    split at e1
    · cases e1
    · rename_i a' q1
      split at e1
      · cases e1
      · rename_i z qz
        cases e1
        refine ⟨S, env, da, _, E, qa, fun S1 H1 v1 E1 s1 r1 => ⟨rfl, ?_⟩⟩
        have := hr S1 H1 a' _ v1 qz (view E1 r1 q1)
        subst this
        exact k S1 H1 _ E1 s1 (.bl _)
theorem f_isN (ha : FH X c a fa) (hm : behindInMarks .Is (.Constant .none j pos') = false := by rfl) : FE X c (.Compare a [.Is] [.Constant .none j pos'] pos) (m1H gIsN fa) :=
  (pe_cmpR op_isN ha pe_non hm).weak (t_isN gIsN (fun v => decide (v = V.non)) fun S H d z v q w => by cases q; rw [non_vw w])
theorem f_notN (ha : FH X c a fa) (hm : behindInMarks .IsNot (.Constant .none j pos') = false := by rfl) : FE X c (.Compare a [.IsNot] [.Constant .none j pos'] pos) (m1H gNotN fa) :=
  (pe_cmpR op_notN ha pe_non hm).weak (t_isN gNotN (fun v => !decide (v = V.non)) fun S H d z v q w => by cases q; rw [non_vw w])
end

/-! ## in, not in: a list of data -/
noncomputable def gInL (n : Bool) : D → D → Option D := fun d e => match toP d, e with
  | some p, .lst xs => (match toPs xs with
    | some ps => bif eqOk p (.list ps) then some (.bl (n != ps.any fun z => PyData.eqv z p)) else none
    | none => none)
  | _, _ => none
section
variable {K : PySem.W.Frag}
theorem inL_of {n : Bool} {S H : Hp} {d e z : D} {x y : V} (q : gInL n d e = some z) (hd : Vw K S H d x) (he : Vw K S H e y) (hs : Same S H) :
    ∃ p ps, Dp K H x p ∧ Dp K H y (.list ps) ∧ SeqAt.shaped p = true ∧ SeqAt.shaped (.list ps) = true ∧ z = .bl (n != ps.any fun z => PyData.eqv z p) := by
  unfold gInL at q
  split at q
  · rename_i p xs q1
    split at q
    · rename_i ps q2
      obtain ⟨ok, rfl⟩ := bif_some q
      obtain ⟨s1, s2⟩ := chk_of ok
      refine ⟨p, ps, dp_of d p x q1 (SeqAt.canLay_of_shaped s1) (hd.rel hs), dp_of (.lst xs) (.list ps) y ?_ (SeqAt.canLay_of_shaped s2) (he.rel hs), s1, s2, rfl⟩
      unfold toP; rw [q2]
    · cases q
  · cases q
theorem o2_inL : Op2 K (rInD K) (gInL false) := by
  intro S H d e z x y Q q hd he hs kv ka
  obtain ⟨p, ps, a, b, s1, s2, rfl⟩ := inL_of q hd he hs
  exact ⟨p, ps, a, b, s1, s2, by have := kv _ (.bl _); simpa using this⟩
theorem o2_notInL : Op2 K (rNotInD K) (gInL true) := by
  intro S H d e z x y Q q hd he hs kv ka
  obtain ⟨p, ps, a, b, s1, s2, rfl⟩ := inL_of q hd he hs
  exact ⟨p, ps, a, b, s1, s2, by have := kv _ (.bl _); simpa using this⟩
end
section
variable {X : Cx} {c : Ct} {a b : Expr} {pos : Pos} {fa fb : M Hd} {k : Nat}
theorem f_inL (room : Room k X.A) (ha : FH X c a fa) (hb : FH X c b fb) (hm : behindInMarks .In b = false := by rfl) : FE X c (.Compare a [.In] [b] pos) (m2H (gInL false) fa fb) := f_cmp (op_inD (by have := room.un; omega)) o2_inL ha hb hm
theorem f_notInL (room : Room k X.A) (ha : FH X c a fa) (hb : FH X c b fb) (hm : behindInMarks .NotIn b = false := by rfl) : FE X c (.Compare a [.NotIn] [b] pos) (m2H (gInL true) fa fb) := f_cmp (op_notInD (by have := room.un; omega)) o2_notInL ha hb hm
end

/-! ## insert -/
def sInsert (i : Nat) (fi fv : M D) : FS := fun e => match e[i]? with
  | some (.ow _ (.lst _)) => (match fi e with
    | some (.int n, e1) => (match fv e1 with
      | some (d, e2) => (match e2[i]? with
        | some (.ow f (.lst ds)) => if ds.length < 1000000 ∧ 0 ≤ n ∧ n < 1000000 then some (.nx (e2.set i (.ow f (.lst (ds.take n.toNat ++ [d] ++ ds.drop n.toNat))))) else none
        | _ => none)
      | none => none)
    | _ => none)
  | _ => none
section
variable {X : Cx} {c : Ct} {e1 e2 : Expr} {pos apos cpos px : Pos} {i : Nat} {x : Str} {fi fv : M D}
theorem fs_insert (hi : PE X (.Name x px) (tVar i)) (hf : FE X c e1 fi) (hv : FE X c e2 fv) (hbase : attributeBase (.Name x px) "insert" X.env (eval (.Name x px) X.env) = eval (.Name x px) X.env := by rfl)
    (hfew : ((backTo cpos (starEach [e1, e2] X.env)).all (fun x => !x.1) && (backToKw cpos (keywordEach [] X.env)).all (fun x => x.1.isSome) && decide (([e1, e2] : List Expr).length + ([] : List Keyword).length + (if ([] : List Keyword).isEmpty then 0 else 1) < 30)) = true := by rfl)
    (hline : (apos.endLine == cpos.line) = true := by rfl) (hs : starEach [e1, e2] X.env = (false, eval e1 X.env) :: starEach [e2] X.env := by rfl) (hs2 : starEach [e2] X.env = (false, eval e2 X.env) :: starEach [] X.env := by rfl) (hpl : (backTo cpos (starEach ([e2] : List Expr) X.env)).any (·.1) = false := by rfl)
    (hsw : swapsWith (.Call (.Attribute (.Name x px) "insert" apos) [e1, e2] [] cpos) none pos.line X.env = pure false := by rfl) : FSt X c (.Expr (.Call (.Attribute (.Name x px) "insert" apos) [e1, e2] [] cpos) pos) (sInsert i fi fv) :=
  (ps_expr (pe_bm PySem.F.plainAttrs_list PySem.F.slot_list_insert PySem.F.type_list_insert (mt_insert (X := X)) hi (pa_cons hf (pa_cons hv pa_nil hs2) hs) hbase hfew hline hs hpl) hsw).weak fun D' σ H ⟨S, env, o, E, q0, k⟩ => by
    unfold sInsert at q0
    split at q0
    · rename_i f0 ds0 qi
      split at q0
      · rename_i n e3 q1
        split at q0
        · rename_i d e4 q2
          split at q0
          · rename_i f ds q3
            split at q0
            · rename_i hz
              cases q0
              obtain ⟨p, a, ⟨vs0, hp0, _⟩, _, _⟩ := E.ow i f0 _ qi
              refine ⟨_, a, .inl ⟨rfl, vs0, .of hp0⟩, S, env, _, e3, E, q1, fun S1 H1 v1 E1 s1 r1 => ⟨S1, e3, d, e4, E1, q2, fun S2 H2 v2 E2 s2 r2 => ?_⟩⟩
              cases r1
              obtain ⟨p', a', ⟨vs, hp, rs⟩, z, w⟩ := E2.ow i f _ q3
              rw [a] at a'; cases a'
              have h63 : n < 2 ^ 63 := Int.lt_trans hz.2.2 (by decide)
              refine ⟨p, vs, n, v2, rfl, rfl, hp, by rw [← rs.length]; exact big1000000 hz.1, hz.2.1, h63, ?_⟩
              exact k S2 _ σ (E2.chg q3 a (fun b hb => upd_ne hb) ⟨_, upd_same, ((rs.take _).append (.cons r2 .nil)).append (rs.drop _)⟩) (s1.trans s2)
            · cases q0
          · cases q0
        · cases q0
      · cases q0
    · cases q0
end
end FL

set_option Elab.async false
set_option linter.all false
set_option maxRecDepth 100000
set_option maxHeartbeats 2000000
namespace FL
open PySem PySem.Spec PyProof.Rows L2

/-! ## what an own class has beside its methods -/
structure ClsF (K : PySem.W.Frag) (cn : Str) : Prop where
  ha : PySem.W.findIn K (.ref (He.ga K cn)) "__class__" = some (some (.builtin "object.__class__"))
  hn : PySem.W.specialIn K (.builtin "object.__class__") "__get__" = some (some (.builtin "getset_descriptor.__get__"))
  htk : PySem.W.takesIn K (.builtin "object.__class__") = some true
  hm : PySem.W.mroIn K (He.ga K cn) (.type "object") = some true
  me : PySem.W.kitOne K (.ref (He.ga K cn)) (.ref (He.ga K cn)) = some true
  no : ∀ t ∈ kits, PySem.W.kitOne K (.type t) (.ref (He.ga K cn)) = some false
  sb : ∀ t ∈ kits, PySem.W.subIn K (.type t) (.ref (He.ga K cn)) = some false
  ne : PySem.W.findIn K (.ref (He.ga K cn)) "__ne__" = some (some (.builtin "object.__ne__"))
def clsB (K : PySem.W.Frag) (cn : Str) : Bool :=
  decide (PySem.W.findIn K (.ref (He.ga K cn)) "__class__" = some (some (.builtin "object.__class__"))) && (decide (PySem.W.specialIn K (.builtin "object.__class__") "__get__" = some (some (.builtin "getset_descriptor.__get__"))) &&
  (decide (PySem.W.takesIn K (.builtin "object.__class__") = some true) && (decide (PySem.W.mroIn K (He.ga K cn) (.type "object") = some true) && (decide (PySem.W.kitOne K (.ref (He.ga K cn)) (.ref (He.ga K cn)) = some true) &&
  (kits.all (fun t => decide (PySem.W.kitOne K (.type t) (.ref (He.ga K cn)) = some false)) && (kits.all (fun t => decide (PySem.W.subIn K (.type t) (.ref (He.ga K cn)) = some false)) &&
  decide (PySem.W.findIn K (.ref (He.ga K cn)) "__ne__" = some (some (.builtin "object.__ne__")))))))))
theorem clsB_ok {K : PySem.W.Frag} {cn : Str} (h : clsB K cn = true) : ClsF K cn := by
  obtain ⟨a1, h⟩ := and_both h
  obtain ⟨a2, h⟩ := and_both h
  obtain ⟨a3, h⟩ := and_both h
  obtain ⟨a4, h⟩ := and_both h
  obtain ⟨a5, h⟩ := and_both h
  obtain ⟨a6, h⟩ := and_both h
  obtain ⟨a7, a8⟩ := and_both h
  exact ⟨of_decide_eq_true a1, of_decide_eq_true a2, of_decide_eq_true a3, of_decide_eq_true a4, of_decide_eq_true a5,
    fun t ht => of_decide_eq_true (List.all_eq_true.mp a6 t ht), fun t ht => of_decide_eq_true (List.all_eq_true.mp a7 t ht), of_decide_eq_true a8⟩

/-! ## o.m(e, ..) -/
def mMeth (cn m : Str) (φ : Fn) (fa : M D) (fr : M (List D)) : M D := fun e => match fa e with
  | some (.obj c fs, e1) => if c = cn ∧ fs.lookup m = none then (match fr e1 with
    | some (ds, e2) => (match φ (.sh (.obj c fs) :: ds.map .sh) with
      | some (r, _) => some (r, e2)
      | none => none)
    | none => none) else none
  | _ => none
theorem RelFs.lookup_none {K : PySem.W.Frag} {S : Hp} {f : Str} : ∀ {ds : List (Str × D)} {vs : List (Str × V)}, RelFs K S ds vs → ds.lookup f = none → vs.lookup f = none
  | _, _, .nil, _ => rfl
  | _, _, .cons (k := k) h r, e => by
    rw [List.lookup_cons] at e ⊢
    split at e
    · cases e
    · rename_i q
      exact RelFs.lookup_none r e
section
variable {X : Cx} {c : Ct} {k : Nat} {f : Addr} {fd : FuncData} {ps : List Str} {φ : Fn} {cn m : Str} {o e : Expr} {es : List Expr} {pos apos : Pos} {fa : M D} {fr : M (List D)}
theorem t_meth (σ : L2.St) (H : Hp) (Q : VK) (h : tM X.K c (mMeth cn m φ fa fr) σ H Q) : tMeth (He.ga X.K cn) m (spF X.K φ) [] E0 (tM X.K c fa) (tMs X.K c fr) σ H Q := by
  obtain ⟨S, env, d, env', E, e1, kk⟩ := h
  unfold mMeth at e1
  split at e1
  · rename_i c1 fs ea qa
    split at e1
    · rename_i hc
      obtain ⟨rfl, hl⟩ := hc
      split at e1
      · rename_i ds e2 qr
        split at e1
        · rename_i r e3 q2
          cases e1
          refine ⟨S, env, _, ea, E, qa, fun S1 H1 v1 E1 s1 r1 => ?_⟩
          have r1' := r1
          cases r1 with
          | obj h1 rf =>
            refine ⟨_, _, _, rfl, E1.sub _ _ h1, RelFs.lookup_none rf hl, S1, ea, ds, _, E1, qr, fun S2 H2 vs E2 s2 r2 => ?_⟩
            show spF X.K φ (V.ref _ :: (vs ++ [])) H2 Q E0
            rw [List.append_nil]
            refine ⟨_, S2, _, _, _, ER.args (ds := _ :: ds) (vs := _ :: vs) E2.sub (.cons (r1'.mono s2) r2), q2, fun S3 H3 v E3 s3 r3 => ?_⟩
            exact kk S3 H3 v (E2.grow E3.s0 E3.sub E3.dom (fun b o z => E3.kep b o z fun _ z => nomatch z) E3.frs) ((s1.trans s2).trans s3) r3
        · cases e1
      · cases e1
    · cases e1
  · cases e1
theorem f_meth {pl : Sem Bool} (ha : FE X c o fa) (cl : Cls X.K (He.ga X.K cn)) (hm : Meth X.K (He.ga X.K cn) m f) (F : FnOk X.prog X.w X.K X.mg X.base CX0 k f fd ps (spF X.K φ)) (room : Room k X.A) (hb : Binds X.K fd ps []) (hr : FA X c (e :: es) fr)
    (hst : starEach (e :: es) X.env = (false, eval e X.env) :: starEach es X.env := by rfl) (hpl : (backTo pos (starEach es X.env)).any (·.1) = false := by rfl)
    (ht : eval (.Call (.Attribute o m apos) (e :: es) [] pos) X.env = (do
      let ov ← eval o X.env
      standAt apos.atName
      let (f, first) ← holding [ov] (getMethod ov m pl)
      callWith pos f first (backTo pos (starEach (e :: es) X.env)) (backToKw pos (keywordEach [] X.env))) := by rfl) :
    FE X c (.Call (.Attribute o m apos) (e :: es) [] pos) (mMeth cn m φ fa fr) := (pe_meth ha cl hm F room hb .nil pass0 hr hst hpl ht).weak t_meth
theorem f_meth0 {pl : Sem Bool} (ha : FE X c o fa) (cl : Cls X.K (He.ga X.K cn)) (hm : Meth X.K (He.ga X.K cn) m f) (F : FnOk X.prog X.w X.K X.mg X.base CX0 k f fd ps (spF X.K φ)) (room : Room k X.A) (hb : Binds X.K fd ps [])
    (ht : eval (.Call (.Attribute o m apos) [] [] pos) X.env = (do
      let ov ← eval o X.env
      standAt apos.atName
      let (f, first) ← holding [ov] (getMethod ov m pl)
      callWith pos f first (backTo pos (starEach [] X.env)) (backToKw pos (keywordEach [] X.env))) := by rfl) :
    FE X c (.Call (.Attribute o m apos) [] [] pos) (mMeth cn m φ fa mNil) := (pe_meth0 ha cl hm F room hb .nil pass0 ht).weak fun σ H Q h => by
    obtain ⟨S, env, d, env', E, q, kk⟩ := t_meth σ H Q h
    refine ⟨S, env, d, env', E, q, fun S1 H1 v E1 s1 r1 => ?_⟩
    obtain ⟨a, dx, fs, ev, hi, hl, S2, env2, ds, env3, E2, q2, k2⟩ := kk S1 H1 v E1 s1 r1
    cases q2
    exact ⟨a, dx, fs, ev, hi, hl, k2 S2 H1 [] E2 (Same.refl _) .nil⟩
end

/-! ## a property that makes a new object -/
section
variable {P : Program} {w : World} {K : PySem.W.Frag} {mg : Str → Option Value} {base : Heap} {k : Nat} {f : Addr} {name qual : Str} {params : Arguments} {body : List Stmt} {scope : Scope} {dvs : List V} {kws : List (Str × V)} {fd : FuncData} {N ps : List Str}
theorem walkFO {fb : FS} {X : Cx} (S0 : ∀ c, FSs X.nox c body fb) (hN : X.N = N) {vs : List V} {H : Hp} {Q : VK} {E : XK} (h : spO K (mkFnO N.length ps.length fb) vs H Q E) (hK : X.K = K) :
    ∃ t, PSs X body t ∧ t { nx := fun _ H' => Q .non H', rt := Q } (start N vs) H := by
  subst hK
  obtain ⟨L, S, env, d, env', E1, q, kk⟩ := h
  refine ⟨_, PSs.nox (S0 ⟨L, S, H⟩), ?_⟩
  unfold mkFnO at q
  split at q
  · rename_i hl
    rw [← hl] at q
    split at q
    · rename_i d' e q2
      obtain ⟨hz, rfl, rfl⟩ := endF_some q
      exact ⟨S, _, _, E1.start, q2, fun S' H' σ' p E' s' o' a' b' => kk S' H' p (ER.finish E1 E' hz) s' o' a' b'⟩
    · cases q
  · cases q
theorem def_okNO {fb : FS} (F : FunD K name qual params body scope dvs kws f fd) (Sc : FnScope N ps scope)
    (walk : ∀ (cdv : Value) (A : Around) (outer : List Env) (s : Shared) (H : Hp) (E : XK) (c : Ct), Room k (A.deeper (envOfC qual scope s.heap.objs.size f cdv)) →
      FSs (cxOf CX0 P w K mg base N qual scope f cdv A outer s H E).nox c body fb) :
    FnOk P w K mg base CX0 (k + 1) f fd ps (spO K (mkFnO N.length ps.length fb)) :=
  F.ok Sc (fun vs H Q E h => spO_len vs H Q E h) fun cdv A outer s H vs Q E room h =>
    walkFO (fun c => walk cdv A outer s H E c room) rfl h rfl
end
section
variable {X : Cx} {c : Ct} {k : Nat} {f : Addr} {φ : Fn} {cn : Str} {e : Expr} {pos : Pos}
/-- what a call of such a def leaves -/
theorem out_spO {σ : L2.St} {S1 H1 : Hp} {env : En} {vs : List V} {ds : List D} {d : D} {e3 : En} {Q : VK} (E1 : Er X.K c S1 H1 σ env) (r : RelDs X.K S1 ds vs) (q : φ (ds.map .sh) = some (d, e3))
    (kk : ∀ S' H' p, Er X.K c S' H' σ env → Same S1 S' → OwnAt X.K S' H' d p → S' p = none → c.H0 p = none → (∀ (j : Nat) (f : Bool) (e : D), env[j]? = some (.ow f e) → σ[j]? ≠ some (some (.ref p))) → Q (.ref p) H') : spO X.K φ vs H1 Q E0 := by
  refine ⟨_, S1, _, _, _, ER.args E1.sub r, q, fun S2 H2 v E2 s2 o2 z2 n2 => ?_⟩
  refine kk S2 H2 v (E1.grow E2.s0 E2.sub E2.dom (fun b o z => E2.kep b o z fun _ z => nomatch z) E2.frs) s2 o2 z2 ?_ fun j f e q z => ?_
  · cases ez : c.H0 v with
    | none => rfl
    | some o => exact absurd n2 (E1.dom v (by rw [ez]; exact fun z => nomatch z))
  · obtain ⟨p1, a1, o1, _⟩ := E1.ow j f e q
    rw [a1] at z; cases z
    exact o1.there n2
theorem fo_prop {fd : FuncData} {ps : List Str} {fe : M D} {pr : Addr} {g : Str} (ha : FE X c e fe) (cl : Cls X.K (He.ga X.K cn)) (hp : PropOf X.K (He.ga X.K cn) g pr f) (F : FnOk X.prog X.w X.K X.mg X.base CX0 k f fd ps (spO X.K φ)) (room : Room (k + 1) X.A) (hb : Binds X.K fd ps [])
    (hab : attributeBase e g X.env (eval e X.env) = eval e X.env := by rfl) : FO X c (.Attribute e g pos) (mProp cn φ fe) := (pe_prop ha cl hp F room hb .nil (E := E0) pass0 hab).weak fun σ H Q ⟨S, env, d, env', E, e1, kk⟩ => by
  unfold mProp at e1
  split at e1
  · rename_i c' fs e2 q
    split at e1
    · rename_i hc
      subst hc
      split at e1
      · rename_i r e3 q2
        cases e1
        refine ⟨S, env, _, _, E, q, fun S1 H1 v E1 s1 r1 => ?_⟩
        have r1' := r1
        cases r1 with
        | obj h r =>
          exact ⟨_, _, _, rfl, E1.sub _ _ h, out_spO (ds := [_]) E1 (.cons r1' .nil) q2 fun S' H' p E' s' => kk S' H' p E' (s1.trans s')⟩
      · cases e1
    · cases e1
  · cases e1
end

/-! ## isinstance against an own class -/
def gIsiO (cn : Str) : D → Option D
  | .obj c _ => if c = cn then some (.bl true) else none
  | .kls _ => none
  | _ => some (.bl false)
section
variable {X : Cx} {c : Ct} {e : Expr} {p p2 pos : Pos} {fa : M Hd} {cn y : Str}
theorem f_isiO (cf : ClsF X.K cn) (cl : Cls X.K (He.ga X.K cn)) (ha : FH X c e fa) (hg : Gl X "isinstance") (hm : X.mg "isinstance" = none) (hgT : Gl X y) (hmT : X.mg y = some (.ref (He.ga X.K cn))) (hdb : (y == ("__debug__" : Str)) = false := by decide)
    (he : starEach [e, .Name y p2] X.env = (false, eval e X.env) :: starEach [.Name y p2] X.env := by rfl) (he2 : starEach [.Name y p2] X.env = (false, eval (.Name y p2) X.env) :: starEach [] X.env := by rfl) (hpl : (backTo pos (starEach ([.Name y p2] : List Expr) X.env)).any (·.1) = false := by rfl) :
    FE X c (.Call (.Name "isinstance" p) [e, .Name y p2] [] pos) (m1H (gIsiO cn) fa) :=
  (pe_callB call_isi hg hm (by decide +kernel) (pa_cons ha (pa_cons (pe_glob (v := .ref (He.ga X.K cn)) hgT hmT rfl hdb) pa_nil he2) he) (by decide) (by decide) he hpl).weak fun σ H Q h => by
    obtain ⟨S, env, d, env', E, e1, k⟩ := h
    unfold m1H at e1
    split at e1
    · cases e1
    · rename_i da ea qa
      split at e1
      · cases e1
      · rename_i a' q1
        split at e1
        · cases e1
        · rename_i zz qz
          obtain ⟨rfl, rfl⟩ : zz = d ∧ ea = env' := by cases e1; exact ⟨rfl, rfl⟩
          refine ⟨S, env, da, _, E, qa, fun S1 H1 v1 E1 s1 r1 => ?_⟩
          have w := view E1 r1 q1
          cases ho : isObjD a' with
          | false =>
            have hz : zz = .bl false := by
              cases a' <;> first | (cases ho; done) | (cases qz; rfl)
            subst hz
            exact ⟨v1, .ref (He.ga X.K cn), _, _, _, rfl, .own _, tyX_of w E1.sub ho, cf.no _ (kind_in a' ho), k S1 H1 _ E1 s1 (.bl _)⟩
          | true =>
            cases a' with
            | obj cc fs =>
              unfold gIsiO at qz
              split at qz
              · rename_i hq1
                cases hq1
                split at qz
                · rename_i hcn
                  subst hcn
                  cases qz
                  obtain ⟨a, dx, vs, rfl, hi, _⟩ := w.obj E1.sub
                  exact ⟨_, .ref (He.ga X.K cc), _, _, _, rfl, .own _, .base (.ins hi cl cf.ha cf.hn cf.htk cf.hm), cf.me, k S1 H1 _ E1 s1 (.bl _)⟩
                · cases qz
              · cases qz
              · rename_i hh _
                exact absurd rfl (hh cc fs)
            | kls n => cases qz
            | _ => cases ho
end
end FL

set_option Elab.async false
set_option linter.all false
set_option maxRecDepth 100000
set_option maxHeartbeats 2000000
namespace FL
open PySem PySem.Spec PyProof.Rows L2

/-! ## the type of a value, looked up -/
theorem looks_ty {M : Model} {s : Shared} {v : Value} {T : String} (h : s.TypeIs v T) : PySem.W.Looks M s.heap (typeOf v) (.type T) := by
  cases v with
  | ref a =>
    obtain ⟨o, ho, hc⟩ := h
    exact hc ▸ (PySem.W.Looks.ld ho).andThen .now
  | _ => exact PySem.W.Looks.of_pure h
section
variable {X : Cx} {pins : List (Addr × Obj)} {σ : L2.St} {S H : Hp} {s : Shared}
theorem type_of {d : D} {x : V} {u : Value} (I : Inv X pins σ H s) (rx : RelV x u) (w : Vw X.K S H d x) (hs : Same S H) (h : isObjD d = false) : s.TypeIs u (kindN d) := by
  cases d with
  | non => rcases w with w | ⟨p, _, w⟩; (cases w; cases (show u = Value.none from rx); exact (rfl : typeOf Value.none = _)); exact w.elim
  | bl b => rcases w with w | ⟨p, _, w⟩; (cases w; cases (show u = Value.bool b from rx); exact (rfl : typeOf (Value.bool b) = _)); exact w.elim
  | int i => rcases w with w | ⟨p, _, w⟩; (cases w; obtain ⟨t, q⟩ := (show ∃ t, u = Value.int i t from rx); cases q; exact (rfl : typeOf (Value.int i t) = _)); exact w.elim
  | str y => rcases w with w | ⟨p, _, w⟩; (cases w; obtain ⟨t, q⟩ := (show ∃ t, u = Value.str y t from rx); cases q; exact (rfl : typeOf (Value.str y t) = _)); exact w.elim
  | lst xs =>
    obtain ⟨a, vs, rfl, h, _⟩ := w.lst hs
    cases (show u = Value.ref a from rx)
    obtain ⟨_, _, n, _, h1⟩ := (show ObjOk X.prog X.w H s.heap a (.lst vs) from I.hok a _ h)
    exact ⟨_, h1, rfl⟩
  | tup xs =>
    obtain ⟨a, vs, rfl, h, _⟩ := w.tup hs
    cases (show u = Value.ref a from rx)
    rcases h with h | ⟨o, its, n, k, hc, _⟩
    · obtain ⟨_, _, _, o, h1, h2, _⟩ := (show ObjOk X.prog X.w H s.heap a (.tup vs) from I.hok a _ h)
      exact ⟨o, h1, h2⟩
    · exact ⟨o, I.kIn a o k, hc⟩
  | dic xs =>
    obtain ⟨a, vs, rfl, h, _⟩ := w.dic hs
    cases (show u = Value.ref a from rx)
    obtain ⟨_, _, ws, _, o, es, ep, h1, h2, _⟩ := (show ObjOk X.prog X.w H s.heap a (.dK vs) from I.hok a _ h)
    exact ⟨o, h1, h2.1⟩
  | obj n xs => cases h
  | kls n => cases h
  | scr ns =>
    rcases w with w | ⟨p, _, w⟩
    · cases w with
      | scr h =>
        cases rx
        rcases hs.seq h with (h | ⟨o, h⟩) | ⟨o, its, n, k, hc, _⟩
        · obtain ⟨_, _, n, _, h1⟩ := (show ObjOk X.prog X.w H s.heap _ (.lst _) from I.hok _ _ h)
          exact ⟨_, h1, rfl⟩
        · obtain ⟨_, _, _, n, _, h1⟩ := (show ObjOk X.prog X.w H s.heap _ (.frz o (.lst _)) from I.hok _ _ h)
          exact ⟨_, h1, rfl⟩
        · exact ⟨o, I.kIn _ o k, hc⟩
    · exact w.elim
end

/-! ## o == e, o != e by an own __eq__ -/
/-- the right side: an instance of the same class, or data -/
def rOk (cn : Str) : D → Bool
  | .obj c _ => decide (c = cn)
  | .kls _ => false
  | _ => true
/-- .. as a value -/
def RtOk (K : PySem.W.Frag) (H : Hp) (cn : Str) (y : V) : Prop := (∃ b dy gs, y = .ref b ∧ H b = some (.ins (He.ga K cn) dy gs)) ∨ ∃ S d, isObjD d = false ∧ Same S H ∧ Vw K S H d y
def rCmpO (cn : Str) (K : PySem.W.Frag) (φ : Fn) (n : Bool) : R2 := fun x y H Q => ∃ a dx fs, x = .ref a ∧ H a = some (.ins (He.ga K cn) dx fs) ∧ RtOk K H cn y ∧ spF K φ [x, y] H (fun v H' => ∃ b, v = .bl b ∧ Q (.bl (n != b)) H') E0
section
variable {M : Model} {prog : Program} {w : World} {A : Around} {E : Value → Shared → Prop} {s : Shared} {K : PySem.W.Frag} {x C f : Addr} {ox : Obj} {od : Option Obj} {b : Value} {tb : Value}
theorem ifBound_ne {args : List Value} {Q : Option Value → Shared → Prop} (X : K.In s.heap) (I : PySem.W.InstAt s.heap x ox C od) (hs : PySem.W.findIn K (.ref C) "__ne__" = some (some (.builtin "object.__ne__")))
    (h : wpAny M A (call (.builtin "object.__ne__") (.ref x :: args)) (fun v => Q (some v)) E s) : wpAny M A (callSpecialIfBound? (.ref x) "__ne__" args) Q E s := by
  simp only [callSpecialIfBound?, bindSpecialIfBound?]
  refine wpAny_holding (wpAny_bind (wpAny_bind (wpAny_bind (I.type.here ((PySem.W.looks_findIn X hs).here ?_)))))
  refine wpAny_bind (wpAny_askSetting (wpAny_ite ?_))
  have fin : wpAny M A (call (.builtin "object.__ne__") ([.ref x] ++ args) >>= fun v => pure (some v)) Q E s := wpAny_bind (wpAny_mono h (fun v s' h' => wpAny_pure h') fun _ _ h' => h')
  split
  · exact wpAny_bind (wpAny_of_eq (F.cmp_object.ne.bind _) (wpAny_pure (by exact fin)))
  · exact wpAny_tryCatch (wpAny_bind (wpAny_of_eq (F.cmp_object.ne.bind _) (wpAny_pure (by exact fin))))
theorem objNe_entry {Q : Fin → Shared → Prop} (hu : A.units < cLine) (X : K.In s.heap) (I : PySem.W.InstAt s.heap x ox C od) (he : PySem.W.findIn K (.ref C) "__eq__" = some (some (.ref f))) (hf : PySem.W.isFn K (.ref f) = true)
    (h : wpAny M A (call (.ref f) [.ref x, b]) (fun r s' => ∃ c, r = .bool c ∧ Q (.done (.ret (.bool !c))) s') E s) : wpAny M A (Builtin.«object.__ne__» ⟨[.ref x, b], []⟩) Q E s := by
  unfold Builtin.«object.__ne__»
  refine wpAny_bind (wpAny_of_eq (a := (Value.ref x, [b])) (by first | rfl | kernel_rfl) ?_)
  try dsimp only
  refine wpAny_bind (wpAny_cRoomFor hu ?_)
  refine wpAny_bind (PySem.W.ifBound_K X I he hf (wpAny_mono h (fun r s' q => ?_) fun _ _ z => z))
  obtain ⟨c, rfl, q⟩ := q
  try dsimp only
  refine wpAny_bind (wpAny_truthy_bool ?_)
  exact wpAny_pure q
theorem ne_own {Q : Value → Shared → Prop} (hu : A.units + 1 < cLine) (X : K.In s.heap) (I : PySem.W.InstAt s.heap x ox C od) (hb : PySem.W.Looks (model prog w) s.heap (typeOf b) tb) (hn : PySem.W.notFirst K C tb = true) (hm : PySem.W.mroIn K C (.type "object") = some true)
    (hne : PySem.W.findIn K (.ref C) "__ne__" = some (some (.builtin "object.__ne__"))) (he : PySem.W.findIn K (.ref C) "__eq__" = some (some (.ref f))) (hf : PySem.W.isFn K (.ref f) = true)
    (h : wpAny (model prog w) A.in1 (call (.ref f) [.ref x, b]) (fun r s' => ∃ c, r = .bool c ∧ Q (.bool !c) s') E s) : wpAny (model prog w) A (richCompare .NotEq (.ref x) b) Q E s := by
  have one : wpAny (model prog w) A (tryCompare (.ref x) "__ne__" b) (fun r s' => ∃ v, r = some v ∧ Q v s') E s := by
    unfold tryCompare
    refine wpAny_bind (ifBound_ne X I hne (wpAny_call (codeAny_call_builtin F.cmp_object.ne.plain F.cmpEntry_ne (PySem.W.check_slot F.cmpKind_ne F.cmpSplit_ne (I.type.andThen (PySem.W.looks_mroIn X hm)) (F.cmpArgs_ne _ _)
      (objNe_entry (A := A.in1) hu X I he hf (wpAny_mono h (fun r s' q => ?_) fun _ _ z => z))))))
    obtain ⟨c, rfl, q⟩ := q
    exact ⟨c, rfl, wpAny_pure ⟨_, rfl, q⟩⟩
  unfold richCompare
  simp only [oneThing_ref]
  refine wpAny_holding (wpAny_bind (wpAny_cRoomFor (by omega) ?_))
  refine wpAny_bind (I.type.here (wpAny_bind (hb.here ?_)))
  have one' : wpAny (model prog w) A (tryCompare (.ref x) (cmpInfo .NotEq).2.1 b) (fun r s' => ∃ v, r = some v ∧ Q v s') E s := one
  split
  · rename_i q
    have e : PySem.W.subIn K tb (.ref C) = some false := by
      rcases Bool.or_eq_true_iff.mp hn with e | e
      · rw [beq_iff_eq.mp e] at q; simp at q
      · exact beq_iff_eq.mp e
    refine wpAny_bind ((PySem.W.looks_subIn X e).here ?_)
    simp only [Bool.false_eq_true, if_false]
    refine wpAny_bind (wpAny_mono one' (fun r s' z => ?_) fun _ _ e => e)
    obtain ⟨v, rfl, hq⟩ := z
    exact wpAny_pure hq
  · refine wpAny_bind (wpAny_pure ?_)
    simp only [Bool.false_eq_true, if_false]
    refine wpAny_bind (wpAny_mono one' (fun r s' z => ?_) fun _ _ e => e)
    obtain ⟨v, rfl, hq⟩ := z
    exact wpAny_pure hq
end
section
variable {X : Cx} {c : Ct} {k : Nat} {f : Addr} {fd : FuncData} {ps : List Str} {φ : Fn} {cn : Str} {a b : Expr} {pos : Pos} {fa fb : M D}
/-- a def called within a built-in -/
theorem run_fn1 {CX : CXT} {sp : Sp} {dvs : List V} {ds : List Value} {E : XK} {pins : List (Addr × Obj)} {σ : L2.St} {H : Hp} {s : Shared} {Q : VK} {us : List Value} {vs : List V} (F : FnOk X.prog X.w X.K X.mg X.base CX k f fd ps sp) (hr : Room (k + 1) X.A) (hb : Binds X.K fd ps ds) (hd : Vals dvs ds) (hx : Passes CX X E)
    (I : Inv X pins σ H s) (r : Vals vs us) (h : sp (vs ++ dvs) H Q E) : wpAny (model X.prog X.w) X.A.in1 (call (.ref f) us) (EP X pins σ Q) X.xe s := by
  have r2 : Vals (vs ++ dvs) (us ++ ds) := r.append hd
  have hl : (us ++ ds).length = ps.length := by rw [← r2.length]; exact F.len _ _ _ _ h
  have e0 : Env0 X.prog X.w X.K X.mg X.base X.A.in1 X.stack s H := by
    have e := I.env0
    exact ⟨e.frames, e.mod, e.bs, e.bsz, e.funs, e.frf, e.hok, e.bare⟩
  refine wpAny_call (codeAny_mono (F.run X.A.in1 X.stack s H ⟨us, []⟩ (us ++ ds) (vs ++ dvs) Q E hr.in1 e0 (hb s us I.kIn hl) r2 h) fun r s' hq => ?_)
  cases r with
  | error e => exact hx pins σ H s e s' I hq
  | ok fl =>
    cases fl with
    | ret u => exact I.after hq
    | next => exact False.elim hq
    | brk => exact False.elim hq
    | cont => exact False.elim hq
theorem rt_type {pins : List (Addr × Obj)} {σ : L2.St} {H : Hp} {s : Shared} {y : V} {u : Value} (cf : ClsF X.K cn) (I : Inv X pins σ H s) (ry : RelV y u) (h : RtOk X.K H cn y) : ∃ tb, PySem.W.Looks (model X.prog X.w) s.heap (typeOf u) tb ∧ PySem.W.notFirst X.K (He.ga X.K cn) tb = true := by
  rcases h with ⟨b, dy, gs, rfl, hb'⟩ | ⟨S, d, ho, hs, w⟩
  · cases ry
    obtain ⟨mB, J', _⟩ := ins_get I.hok hb'
    obtain ⟨od', J', _⟩ := J'.look
    exact ⟨_, J'.type, by simp [PySem.W.notFirst]⟩
  · refine ⟨_, looks_ty (type_of I ry w hs ho), ?_⟩
    unfold PySem.W.notFirst
    rw [cf.sb _ (kind_in d ho)]
    simp
theorem op_eqX (cf : ClsF X.K cn) (F : FnOk X.prog X.w X.K X.mg X.base CX0 k f fd ps (spF X.K φ)) (hm : Meth X.K (He.ga X.K cn) "__eq__" f) (room : Room k X.A) (hb : Binds X.K fd ps []) : OpR X (compareOp .Eq) (rCmpO cn X.K φ false) := by
  intro pins s σ H x y v u Q I rx ry h
  obtain ⟨a, dx, fs, rfl, ha, hy, hsp⟩ := h
  cases rx
  obtain ⟨mA, J, _⟩ := ins_get I.hok ha
  obtain ⟨od, J, _⟩ := J.look
  obtain ⟨m, hF⟩ := I.fr
  obtain ⟨tb, hl, hn⟩ := rt_type cf I ry hy
  refine PySem.W.cmp_K (op := .Eq) (tb := tb) room.units0 hF I.ok.mod.kin J hl hn hm.at_ hm.fn (wpAny_mono (run_fn (vs := [.ref a, y]) F room hb .nil pass0 I (.cons rfl (.cons ry .nil)) hsp) (fun r s' q => ?_) fun _ _ z => z)
  obtain ⟨z, H', I', rz, b, ez, q⟩ := q
  subst ez
  cases rz
  exact ⟨.bl b, H', I', rfl, by simpa using q⟩
theorem op_neX (cf : ClsF X.K cn) (F : FnOk X.prog X.w X.K X.mg X.base CX0 k f fd ps (spF X.K φ)) (hm : Meth X.K (He.ga X.K cn) "__eq__" f) (room : Room (k + 1) X.A) (hb : Binds X.K fd ps []) : OpR X (compareOp .NotEq) (rCmpO cn X.K φ true) := by
  intro pins s σ H x y v u Q I rx ry h
  obtain ⟨a, dx, fs, rfl, ha, hy, hsp⟩ := h
  cases rx
  obtain ⟨mA, J, _⟩ := ins_get I.hok ha
  obtain ⟨od, J, _⟩ := J.look
  obtain ⟨tb, hl, hn⟩ := rt_type cf I ry hy
  refine ne_own (A := X.A) (by have := room.un; omega) I.kIn J hl hn cf.hm cf.ne hm.at_ hm.fn (wpAny_mono (run_fn1 (vs := [.ref a, y]) F room hb .nil pass0 I (.cons rfl (.cons ry .nil)) hsp) (fun r s' q => ?_) fun _ _ z => z)
  obtain ⟨z, H', I', rz, b, ez, q⟩ := q
  subst ez
  cases rz
  exact ⟨b, rfl, .bl (!b), H', I', rfl, by simpa using q⟩
/-- one of two values is an instance on the left: its own ==; else data -/
noncomputable def mCmpX (cn : Str) (φ : Fn) (n : Bool) (fa fb : M D) : M D := fun e => match fa e with
  | some (da, e1) => (match fb e1 with
    | some (db, e2) => (match da with
      | .obj c fs => if c = cn ∧ rOk cn db = true then (match φ [.sh (.obj c fs), .sh db] with
        | some (.bl b, _) => some (.bl (n != b), e2)
        | _ => none) else none
      | da => (match (bif n then gNe da db else gEq da db) with
        | some z => some (z, e2)
        | none => none))
    | none => none)
  | none => none
theorem t_cmpX {n : Bool} {r : R2} (hr : Op2 X.K r (fun x y => bif n then gNe x y else gEq x y)) (σ : L2.St) (H : Hp) (Q : VK) (h : tM X.K c (mCmpX cn φ n fa fb) σ H Q) : tOp (fun x y H Q => rCmpO cn X.K φ n x y H Q ∨ r x y H Q) (tM X.K c fa) (tM X.K c fb) σ H Q := by
  obtain ⟨S, env, d, env', E, e1, kk⟩ := h
  unfold mCmpX at e1
  split at e1
  · rename_i da ea qa
    split at e1
    · rename_i db eb qb
      split at e1
      · rename_i c1 fs
        split at e1
        · rename_i hc
          obtain ⟨rfl, hro⟩ := hc
          split at e1
          · rename_i bb e3 q2
            cases e1
            refine ⟨S, env, _, ea, E, qa, fun S1 H1 v1 E1 s1 r1 => ⟨S1, ea, db, _, E1, qb, fun S2 H2 v2 E2 s2 r2 => .inl ?_⟩⟩
            have r1' := r1.mono s2
            cases r1 with
            | obj h1 rf =>
              refine ⟨_, _, _, rfl, E2.sub _ _ (s2 _ _ h1), ?_, ?_⟩
              · cases ho : isObjD db with
                | false => exact .inr ⟨S2, db, ho, E2.sub, .inl r2⟩
                | true =>
                  cases r2 <;> first | (cases ho; done) | (cases hro; done) | skip
                  rename_i h2 rf2
                  have : _ = _ := of_decide_eq_true hro
                  subst this
                  exact .inl ⟨_, _, _, rfl, E2.sub _ _ h2⟩
              · refine ⟨_, S2, _, _, _, ER.args E2.sub (.cons r1' (.cons r2 .nil)), q2, fun S3 H3 v E3 s3 r3 => ?_⟩
                cases r3
                exact ⟨_, rfl, kk S3 H3 _ (E2.grow E3.s0 E3.sub E3.dom (fun b o z => E3.kep b o z fun _ z => nomatch z) E3.frs) ((s1.trans s2).trans s3) (.bl _)⟩
          · cases e1
        · cases e1
      · split at e1
        · rename_i z qz
          cases e1
          refine ⟨S, env, _, ea, E, qa, fun S1 H1 v1 E1 s1 r1 => ⟨S1, ea, db, _, E1, qb, fun S2 H2 v2 E2 s2 r2 => .inr ?_⟩⟩
          exact hr S2 H2 _ db _ v1 v2 Q qz (.inl (r1.mono s2)) (.inl r2) E2.sub (fun v r => kk S2 H2 v E2 (s1.trans s2) r) fun p o hp r => kk _ _ _ (E2.laid o hp) ((s1.trans s2).trans (same_upd (E2.sub.free hp))) r
        · cases e1
    · cases e1
  · cases e1
theorem f_eqX {j : Nat} (cf : ClsF X.K cn) (F : FnOk X.prog X.w X.K X.mg X.base CX0 k f fd ps (spF X.K φ)) (hm : Meth X.K (He.ga X.K cn) "__eq__" f) (room : Room (k + 1) X.A) (hb : Binds X.K fd ps []) (ha : FE X c a fa) (hbb : FE X c b fb) (hbi : behindInMarks .Eq b = false := by rfl) :
    FE X c (.Compare a [.Eq] [b] pos) (mCmpX cn φ false fa fb) := (pe_cmpR (op2_or (op_eqX cf F hm (room.mono (by omega)) hb) (op2_or op_eq (op_eqD room.units))) ha hbb hbi).weak (t_cmpX o2_eq)
theorem f_neX {j : Nat} (cf : ClsF X.K cn) (F : FnOk X.prog X.w X.K X.mg X.base CX0 k f fd ps (spF X.K φ)) (hm : Meth X.K (He.ga X.K cn) "__eq__" f) (room : Room (k + 1) X.A) (hb : Binds X.K fd ps []) (ha : FE X c a fa) (hbb : FE X c b fb) (hbi : behindInMarks .NotEq b = false := by rfl) :
    FE X c (.Compare a [.NotEq] [b] pos) (mCmpX cn φ true fa fb) := (pe_cmpR (op2_or (op_neX cf F hm room hb) (op2_or op_ne (op_neD room.units))) ha hbb hbi).weak (t_cmpX o2_ne)
end
end FL

set_option Elab.async false
set_option linter.all false
set_option maxRecDepth 100000
set_option maxHeartbeats 2000000
namespace FL
open PySem PySem.Spec PyProof.Rows L2
/-! ## len(o), bool(o), o as a test, by own __len__, __bool__ -/
/-- φ of the instance, its answer kept by g -/
def mOwn1 (cn : Str) (φ : Fn) (g : D → Option D) (fa : M D) : M D := fun e => match fa e with
  | some (.obj c fs, e1) => if c = cn then (match φ [.sh (.obj c fs)] with
    | some (r, _) => (match g r with
      | some z => some (z, e1)
      | none => none)
    | none => none) else none
  | _ => none
def gLenB : D → Option D
  | .int n => if 0 ≤ n ∧ n < 1000000000 then some (.int n) else none
  | _ => none
def gBlB : D → Option D
  | .bl b => some (.bl b)
  | _ => none
def rOwn1 (cn : Str) (K : PySem.W.Frag) (φ : Fn) (g : D → Option D) (x : V) (H : Hp) (Q : VK) : Prop := ∃ a dx fs, x = .ref a ∧ H a = some (.ins (He.ga K cn) dx fs) ∧ spF K φ [x] H (fun v H' => (∃ S d z, RelD K S d v ∧ g d = some z) ∧ Q v H') E0
theorem new_bool_obj {prog : Program} {w : World} (a : Addr) : MeetsIn prog w (Builtin.«bool.__new__» ⟨[.type "bool", .ref a], []⟩)
    (fun A R s => wpAny (model prog w) A.in1 (truthy (.ref a)) (fun b s1 => R (.ok (.ret (.bool b))) s1) (fun e s1 => R (.error e) s1) s) := fun A R s h => by
  unfold Builtin.«bool.__new__»
  have f1 := PySem.F.conv_sub_bool
  refine wpAny_bind (m := isType _) (wpAny_of_eq (a := true) (by first | rfl | kernel_rfl) ?_)
  try dsimp only
  rw [if_neg (by decide)]
  refine wpAny_bind (m := isSubtype _ _) (wpAny_of_eq (a := true) f1 ?_)
  try dsimp only
  rw [if_neg (by decide)]
  refine wpAny_bind (wpAny_of_eq (a := [Value.ref a]) (by first | rfl | kernel_rfl) ?_)
  try dsimp only
  exact wpAny_bind (wpAny_mono h (fun b s1 q => wpAny_pure q) fun _ _ z => z)
section
variable {X : Cx} {c : Ct} {k : Nat} {f : Addr} {fd : FuncData} {ps : List Str} {φ : Fn} {cn : Str} {e : Expr} {p pos : Pos} {fa : M D}
theorem t_own1 {g : D → Option D} (hg : ∀ d z, g d = some z → z = d) (σ : L2.St) (H : Hp) (Q : VK) (h : tM X.K c (mOwn1 cn φ g fa) σ H Q) : tCB (fun vs H Q => ∃ x, vs = [x] ∧ rOwn1 cn X.K φ g x H Q) (tCons (tM X.K c fa) tNil) σ H Q := by
  obtain ⟨S, env, d, env', E, e1, kk⟩ := h
  unfold mOwn1 at e1
  split at e1
  · rename_i c1 fs ea qa
    split at e1
    · rename_i hc
      subst hc
      split at e1
      · rename_i r e3 q2
        split at e1
        · rename_i z qz
          cases e1
          refine ⟨S, env, _, _, E, qa, fun S1 H1 v1 E1 s1 r1 => ⟨v1, rfl, ?_⟩⟩
          have r1' := r1
          cases r1 with
          | obj h1 rf =>
            refine ⟨_, _, _, rfl, E1.sub _ _ h1, ?_⟩
            refine ⟨_, S1, _, _, _, ER.args E1.sub (.cons r1' .nil), q2, fun S3 H3 v E3 s3 r3 => ⟨⟨S3, r, _, r3, qz⟩, ?_⟩⟩
            have hz := hg _ _ qz
            subst hz
            exact kk S3 H3 _ (E1.grow E3.s0 E3.sub E3.dom (fun b o z => E3.kep b o z fun _ z => nomatch z) E3.frs) (s1.trans s3) r3
        · cases e1
      · cases e1
    · cases e1
  · cases e1
theorem lenB_eq (d z : D) (h : gLenB d = some z) : z = d := by
  unfold gLenB at h
  split at h
  · split at h
    · cases h; rfl
    · cases h
  · cases h
theorem blB_eq (d z : D) (h : gBlB d = some z) : z = d := by
  unfold gBlB at h
  split at h
  · cases h; rfl
  · cases h
theorem cr_lenO (F : FnOk X.prog X.w X.K X.mg X.base CX0 k f fd ps (spF X.K φ)) (hm : Meth X.K (He.ga X.K cn) "__len__" f) (room : Room (k + 1) X.A) (hb : Binds X.K fd ps []) : CallR X (.builtin "len") (fun vs H Q => ∃ x, vs = [x] ∧ rOwn1 cn X.K φ gLenB x H Q) := by
  intro pins s σ H xs us Q I r h
  obtain ⟨x, rfl, a, dx, fs, rfl, ha, hsp⟩ := h
  obtain rfl := Vals.ref1 r
  obtain ⟨mA, J, _⟩ := ins_get I.hok ha
  obtain ⟨od, J, _⟩ := J.look
  obtain ⟨m, hF⟩ := I.fr
  refine PySem.W.len_K hF I.ok.mod.kin J hm.at_ hm.fn (wpAny_mono (run_fn1 (vs := [.ref a]) F room hb .nil pass0 I (.cons rfl .nil) hsp) (fun r s' q => ?_) fun _ _ z => z)
  obtain ⟨z, H', I', rz, ⟨S, d, z2, rd, hg⟩, q⟩ := q
  unfold gLenB at hg
  split at hg
  · split at hg
    · rename_i n hn
      cases rd
      obtain ⟨t, rfl⟩ := (show ∃ t, r = Value.int n t from rz)
      exact ⟨⟨hn.1, Int.lt_trans hn.2 (by decide)⟩, .int n, H', I'.tok _, ⟨_, rfl⟩, q⟩
    · cases hg
  · cases hg
theorem f_lenO (F : FnOk X.prog X.w X.K X.mg X.base CX0 k f fd ps (spF X.K φ)) (hm : Meth X.K (He.ga X.K cn) "__len__" f) (room : Room (k + 1) X.A) (hb : Binds X.K fd ps []) (ha : FE X c e fa) (hg : Gl X "len") (hn : X.mg "len" = none)
    (he : starEach [e] X.env = (false, eval e X.env) :: starEach [] X.env := by rfl) (hpl : (backTo pos (starEach ([] : List Expr) X.env)).any (·.1) = false := by rfl) : FE X c (.Call (.Name "len" p) [e] [] pos) (mOwn1 cn φ gLenB fa) :=
  (pe_callB (cr_lenO F hm room hb) hg hn (by decide +kernel) (pa_cons ha pa_nil he) (by decide) (by decide) he hpl).weak (t_own1 lenB_eq)
theorem truthy_own {A : Around} {E : Value → Shared → Prop} {pins : List (Addr × Obj)} {σ : L2.St} {H : Hp} {s : Shared} {a : Addr} {Q : VK} {R : Bool → Shared → Prop} (I : Inv X pins σ H s) (hm : Meth X.K (He.ga X.K cn) "__bool__" f)
    {dx : Addr} {fs : List (Str × V)} (ha : H a = some (.ins (He.ga X.K cn) dx fs))
    (run : wpAny (model X.prog X.w) A (call (.ref f) [.ref a]) (EP X pins σ fun v H' => (∃ S d z, RelD X.K S d v ∧ gBlB d = some z) ∧ Q v H') E s) (hR : ∀ (b : Bool) (s' : Shared) (H' : Hp), Inv X pins σ H' s' → Q (.bl b) H' → R b s') :
    wpAny (model X.prog X.w) A (truthy (.ref a)) R E s := by
  obtain ⟨mA, J, _⟩ := ins_get I.hok ha
  obtain ⟨od, J, _⟩ := J.look
  obtain ⟨m, hF⟩ := I.fr
  refine PySem.W.truthy_K hF I.ok.mod.kin J hm.at_ hm.fn (wpAny_mono run (fun r s' q => ?_) fun _ _ z => z)
  obtain ⟨z, H', I', rz, ⟨S, d, z2, rd, hg⟩, q⟩ := q
  unfold gBlB at hg
  split at hg
  · rename_i b
    cases rd
    cases rz
    exact hR b s' H' I' q
  · cases hg
theorem cr_boolO (F : FnOk X.prog X.w X.K X.mg X.base CX0 k f fd ps (spF X.K φ)) (hm : Meth X.K (He.ga X.K cn) "__bool__" f) (room : Room (k + 2) X.A) (hb : Binds X.K fd ps []) : CallR X (.type "bool") (fun vs H Q => ∃ x, vs = [x] ∧ rOwn1 cn X.K φ gBlB x H Q) := by
  intro pins s σ H xs us Q I r h
  obtain ⟨x, rfl, a, dx, fs, rfl, ha, hsp⟩ := h
  obtain rfl := Vals.ref1 r
  refine callType_newIn PySem.F.called_bool PySem.F.newNe_bool (PySem.F.typeCall_bool_1 _) (PySem.F.newCall_bool_1 _) (fun obj => PySem.F.args_object_init_2 obj _) PySem.F.entry_bool_new (new_bool_obj a) ?_
  have e0 : Env0 X.prog X.w X.K X.mg X.base X.A.in1.in1 X.stack s H := by
    have e := I.env0
    exact ⟨e.frames, e.mod, e.bs, e.bsz, e.funs, e.frf, e.hok, e.bare⟩
  have hl : ([Value.ref a] ++ [] : List Value).length = ps.length := by
    have := F.len _ _ _ _ hsp
    simpa using this
  refine truthy_own (A := X.A.in1.in1) (Q := Q) I hm ha (wpAny_call (codeAny_mono (F.run X.A.in1.in1 X.stack s H ⟨[.ref a], []⟩ ([Value.ref a] ++ []) [.ref a] _ E0 (Room.in1 (Room.in1 (k := k + 1) room)) e0 (hb s [.ref a] I.kIn hl) (.cons rfl .nil) hsp) fun r s' hq => ?_)) fun b s' H' I' q => ?_
  · cases r with
    | error e => exact pass0 pins σ H s e s' I hq
    | ok fl =>
      cases fl with
      | ret u => exact I.after hq
      | next => exact False.elim hq
      | brk => exact False.elim hq
      | cont => exact False.elim hq
  · show _ ∧ _
    exact ⟨rfl, .bl b, H', I', rfl, q⟩
theorem f_boolO (F : FnOk X.prog X.w X.K X.mg X.base CX0 k f fd ps (spF X.K φ)) (hm : Meth X.K (He.ga X.K cn) "__bool__" f) (room : Room (k + 2) X.A) (hb : Binds X.K fd ps []) (ha : FE X c e fa) (hg : Gl X "bool") (hn : X.mg "bool" = none)
    (he : starEach [e] X.env = (false, eval e X.env) :: starEach [] X.env := by rfl) (hpl : (backTo pos (starEach ([] : List Expr) X.env)).any (·.1) = false := by rfl) : FE X c (.Call (.Name "bool" p) [e] [] pos) (mOwn1 cn φ gBlB fa) :=
  (pe_callTy (cr_boolO F hm room hb) hg hn (by decide +kernel) (pa_cons ha pa_nil he) (by decide) (by decide) he hpl).weak (t_own1 blB_eq)
/-- an instance as a test -/
def mTruO (cn : Str) (φ : Fn) (fa : M D) : M Bool := fun e => match fa e with
  | some (.obj c fs, e1) => if c = cn then (match φ [.sh (.obj c fs)] with
    | some (.bl b, _) => some (b, e1)
    | _ => none) else none
  | _ => none
theorem ft_truO (F : FnOk X.prog X.w X.K X.mg X.base CX0 k f fd ps (spF X.K φ)) (hm : Meth X.K (He.ga X.K cn) "__bool__" f) (room : Room k X.A) (hb : Binds X.K fd ps []) (ha : FE X c e fa)
    (he : ∀ whole, isTrue e X.env whole = (do let v ← whole; standAt e.pos; holding [v] (truthy v)) := by intro _; rfl) : FT X c e (mTruO cn φ fa) := by
  refine ⟨fun pins s σ H Q I h => ?_⟩
  obtain ⟨S, env, d, env', E, e1, kk⟩ := h
  unfold mTruO at e1
  split at e1
  · rename_i c1 fs ea qa
    split at e1
    · rename_i hc
      subst hc
      split at e1
      · rename_i b e3 q2
        cases e1
        refine isTrue_plain (thn (ha.run pins s σ H (fun v H1 => ∃ S1, Er X.K c S1 H1 σ env' ∧ Same S S1 ∧ RelD X.K S1 (.obj c1 fs) v) I ⟨S, env, _, _, E, qa, fun S1 H1 v E1 s1 r1 => ⟨S1, E1, s1, r1⟩⟩) fun v s1 ⟨x, H1, I1, rx, S1, E1, s1', r1⟩ => ?_) (he _)
        have r1' := r1
        obtain ⟨aa, dxx, vss, rfl, h1⟩ : ∃ aa dxx vss, x = V.ref aa ∧ S1 aa = some (.ins (He.ga X.K c1) dxx vss) := by
          cases r1 with
          | obj h rf => exact ⟨_, _, _, rfl, h⟩
        · cases rx
          have hsp : spF X.K φ [V.ref aa] H1 (fun v H' => (∃ S d z, RelD X.K S d v ∧ gBlB d = some z) ∧ (v = .bl d ∧ Q d H')) E0 := by
            refine ⟨_, S1, _, _, _, ER.args E1.sub (.cons r1' .nil), q2, fun S3 H3 v E3 s3 r3 => ⟨⟨S3, .bl d, _, r3, rfl⟩, ?_⟩⟩
            cases r3
            exact ⟨rfl, kk S3 H3 (E1.grow E3.s0 E3.sub E3.dom (fun b o z => E3.kep b o z fun _ z => nomatch z) E3.frs) (s1'.trans s3)⟩
          refine truthy_own (Q := fun v H' => v = .bl d ∧ Q d H') I1 hm (E1.sub _ _ h1) (run_fn (vs := [.ref aa]) F room hb .nil pass0 I1 (.cons rfl .nil) hsp) fun b' s' H' I' q => ?_
          obtain ⟨qe, q⟩ := q
          cases qe
          exact ⟨H', I', q⟩
      · cases e1
    · cases e1
  · cases e1
end
end FL

set_option Elab.async false
set_option linter.all false
set_option maxRecDepth 100000
set_option maxHeartbeats 2000000
namespace FL
open PySem PySem.Spec PyProof.Rows L2
/-! ## texts -/
theorem rel_str {K : PySem.W.Frag} {S : Hp} {i : Str} {x : V} (h : RelD K S (.str i) x) : x = .str i := by cases h; rfl
noncomputable def gFmt : D → Option D
  | .int i => bif intOk i then some (.str (toString i)) else none
  | .str y => if y.length ≤ sizeLine then some (.str y) else none
  | _ => none
/-- the parts of an f-string, one behind the other -/
def mJs : List (M D) → Str → M D
  | [], acc => fun e => some (.str acc, e)
  | f :: fs, acc => fun e => match f e with
    | some (.str y, e1) => if (acc ++ y).length ≤ sizeLine then mJs fs (acc ++ y) e1 else none
    | _ => none
/-- a method of texts with one argument, without -/
def OpS1 (K : PySem.W.Frag) (r : V → List V → Hp → VK → Prop) (g : D → D → Option D) : Prop := ∀ (S H : Hp) (d e z : D) (x y : V) (Q : VK), g d e = some z → RelD K S d x → RelD K S e y → Same S H →
  (∀ v, RelD K S z v → Q v H) → (∀ p o, H p = none → RelD K (upd S p o) z (.ref p) → Q (.ref p) (upd H p o)) → r x [y] H Q
def OpS0 (K : PySem.W.Frag) (r : V → List V → Hp → VK → Prop) (g : D → Option D) : Prop := ∀ (S H : Hp) (d z : D) (x : V) (Q : VK), g d = some z → RelD K S d x → Same S H →
  (∀ v, RelD K S z v → Q v H) → (∀ p o, H p = none → RelD K (upd S p o) z (.ref p) → Q (.ref p) (upd H p o)) → r x [] H Q
section
variable {X : Cx} {c : Ct} {e o : Expr} {pos apos : Pos} {f fo fe : M D} {fs : List (M D)}
theorem f_fmt (he : FE X c e f) : FE X c (.FormattedValue e (-1) none pos) (m1 gFmt f) := (pe_fmt he).weak fun σ H Q ⟨S, env, d, env', E, e1, k⟩ => by
  unfold m1 at e1
  split at e1
  · cases e1
  · rename_i da ea qa
    split at e1
    · cases e1
    · rename_i z qz
      cases e1
      refine ⟨S, env, da, _, E, qa, fun S1 H1 v1 E1 s1 r1 => ?_⟩
      unfold gFmt at qz
      split at qz
      · rename_i i
        obtain ⟨h, rfl⟩ := bif_some qz
        cases r1
        exact .inr ⟨i, rfl, chk_of h, k S1 H1 _ E1 s1 (.str _)⟩
      · rename_i y
        split at qz
        · rename_i h
          cases qz
          cases r1
          exact .inl ⟨y, rfl, h, k S1 H1 _ E1 s1 (.str _)⟩
        · cases qz
      · cases qz
inductive FJ (X : Cx) (c : Ct) : List Expr → List (M D) → Prop where
  | nil : FJ X c [] []
  | cons {e : Expr} {f : M D} {es : List Expr} {fs : List (M D)} (h : FE X c e f) (r : FJ X c es fs) : FJ X c (e :: es) (f :: fs)
theorem FJ.pj {es : List Expr} {fs : List (M D)} (h : FJ X c es fs) : PJ X es (fs.map (tM X.K c)) := by
  induction h with
  | nil => exact .nil
  | cons h r ih => exact .cons h ih
theorem t_js {Q : VK} : ∀ (fs : List (M D)) (acc : Str) (σ : L2.St) (H : Hp), tM X.K c (mJs fs acc) σ H Q → tJs (fs.map (tM X.K c)) acc σ H fun out H1 => Q (.str out) H1
  | [], acc, σ, H, ⟨S, env, d, env', E, e1, k⟩ => by
    cases e1
    exact k S H _ E (Same.refl _) (.str _)
  | f :: fs, acc, σ, H, ⟨S, env, d, env', E, e1, k⟩ => by
    have e1' : (match f env with
      | some (.str y, e1) => if (acc ++ y).length ≤ sizeLine then mJs fs (acc ++ y) e1 else none
      | _ => none) = some (d, env') := e1
    split at e1'
    · rename_i y ea qa
      split at e1'
      · rename_i hz
        refine ⟨S, env, _, ea, E, qa, fun S1 H1 v1 E1 s1 r1 => ⟨y, rel_str r1, hz, ?_⟩⟩
        exact t_js fs (acc ++ y) σ H1 ⟨S1, ea, d, env', E1, e1', fun S2 H2 v E2 s2 r2 => k S2 H2 v E2 (s1.trans s2) r2⟩
      · cases e1'
    · cases e1'
theorem f_joined {v1 v2 : Expr} {rest : List Expr} (h : FJ X c (v1 :: v2 :: rest) fs) : FE X c (.JoinedStr (v1 :: v2 :: rest) pos) (mJs fs Str.empty) := (pe_joined h.pj).weak fun σ H Q h => t_js fs Str.empty σ H h
theorem f_joined1 {v1 : Expr} (h : FE X c v1 f) : FE X c (.JoinedStr [v1] pos) f := pe_joined1 h
theorem f_s1 {id : String} {name : Str} {r : V → List V → Hp → VK → Prop} {g : D → D → Option D} (slot : Slot "str" name id) (ty : typeOf (.builtin id) = pure (.type "method_descriptor")) (rule : MtR X id r) (hg : OpS1 X.K r g) (hw : ∀ d e z, g d e = some z → ∃ a, d = .str a) (ho : FE X c o fo) (he : FE X c e fe)
    (hs : starEach [e] X.env = [(false, eval e X.env)] := by rfl) (hbase : attributeBase o name X.env (eval o X.env) = eval o X.env := by rfl) (hline : (apos.endLine == pos.line) = true := by rfl) :
    FE X c (.Call (.Attribute o name apos) [e] [] pos) (m2 g fo fe) := (pe_m1 slot ty rule ho he hs hbase hline).weak fun σ H Q ⟨S, env, d, env', E, e1, k⟩ => by
  unfold m2 at e1
  split at e1
  · cases e1
  · rename_i da ea qa
    split at e1
    · cases e1
    · rename_i db eb qb
      split at e1
      · cases e1
      · rename_i z qz
        cases e1
        refine ⟨S, env, da, ea, E, qa, fun S1 H1 v1 E1 s1 r1 => ⟨?_, S1, ea, db, _, E1, qb, fun S2 H2 v2 E2 s2 r2 => ?_⟩⟩
        · obtain ⟨a, rfl⟩ := hw da db _ qz
          exact ⟨a, rel_str r1⟩
        · exact hg S2 H2 da db _ v1 v2 Q qz (r1.mono s2) r2 E2.sub (fun v r => k S2 H2 v E2 (s1.trans s2) r) fun p o hp r => k _ _ _ (E2.laid o hp) ((s1.trans s2).trans (same_upd (E2.sub.free hp))) r
theorem f_s0 {id : String} {name : Str} {r : V → List V → Hp → VK → Prop} {g : D → Option D} (slot : Slot "str" name id) (ty : typeOf (.builtin id) = pure (.type "method_descriptor")) (rule : MtR X id r) (hg : OpS0 X.K r g) (hw : ∀ d z, g d = some z → ∃ a, d = .str a) (ho : FE X c o fo)
    (hbase : attributeBase o name X.env (eval o X.env) = eval o X.env := by rfl) (hline : (apos.endLine == pos.line) = true := by rfl) :
    FE X c (.Call (.Attribute o name apos) [] [] pos) (m1 g fo) := (pe_m0 slot ty rule ho hbase hline).weak fun σ H Q ⟨S, env, d, env', E, e1, k⟩ => by
  unfold m1 at e1
  split at e1
  · cases e1
  · rename_i da ea qa
    split at e1
    · cases e1
    · rename_i z qz
      cases e1
      refine ⟨S, env, da, _, E, qa, fun S1 H1 v1 E1 s1 r1 => ⟨?_, ?_⟩⟩
      · obtain ⟨a, rfl⟩ := hw da _ qz
        exact ⟨a, rel_str r1⟩
      · exact hg S1 H1 da _ v1 Q qz r1 E1.sub (fun v r => k S1 H1 v E1 s1 r) fun p o hp r => k _ _ _ (E1.laid o hp) (s1.trans (same_upd (E1.sub.free hp))) r
end
/-! the methods -/
def strsD : List D → Option (List Str)
  | [] => some []
  | .str x :: ds => (match strsD ds with
    | some xs => some (x :: xs)
    | none => none)
  | _ => none
theorem strs_rel {K : PySem.W.Frag} {S : Hp} : ∀ {ds : List D} {vs : List V} {xs : List Str}, RelDs K S ds vs → strsD ds = some xs → vs = xs.map V.str
  | [], _, _, .nil, e => by cases e; rfl
  | .str x :: ds, _, xs, .cons h r, e => by
    have e' : (match strsD ds with
      | some xs => some (x :: xs)
      | none => none) = some xs := e
    split at e'
    · rename_i ys q
      cases e'
      rw [strs_rel r q, rel_str h]; rfl
    · cases e'
theorem rel_strs {K : PySem.W.Frag} {S : Hp} : ∀ (xs : List Str), RelDs K S (xs.map D.str) (xs.map V.str)
  | [] => .nil
  | x :: xs => .cons (.str x) (rel_strs xs)
def joinFit (a : Str) (ys : List Str) : Bool := decide ((ys.map (·.length)).sum + ys.length * a.length ≤ 16777216)
def gJoin : D → D → Option D
  | .str a, .lst ds => (match strsD ds with
    | some ys => bif joinFit a ys then some (.str (Txt.join a ys)) else none
    | none => none)
  | _, _ => none
def gSplit : D → D → Option D
  | .str a, .str b => if (b.length == 0) = false ∧ a.length + 2 ≤ sizeLine then some (.lst ((Txt.split a b).map .str)) else none
  | _, _ => none
def gStarts : D → D → Option D
  | .str a, .str b => some (.bl (Txt.startswith a b))
  | _, _ => none
def gIsdigit : D → Option D
  | .str a => some (.bl (Txt.isdigit a))
  | _ => none
def gIsascii : D → Option D
  | .str a => some (.bl (Txt.isascii a))
  | _ => none
section
variable {X : Cx} {c : Ct} {e o : Expr} {pos apos : Pos} {f fo fe : M D}
theorem f_join (ho : FE X c o fo) (he : FE X c e fe) (hs : starEach [e] X.env = [(false, eval e X.env)] := by rfl) (hbase : attributeBase o "join" X.env (eval o X.env) = eval o X.env := by rfl) (hline : (apos.endLine == pos.line) = true := by rfl) :
    FE X c (.Call (.Attribute o "join" apos) [e] [] pos) (m2 gJoin fo fe) := f_s1 F.slot_str_join F.type_str_join mt_join (fun S H d e z x y Q q r1 r2 hs kv ka => by
  unfold gJoin at q
  split at q
  · rename_i a ds
    split at q
    · rename_i ys qy
      obtain ⟨hz, rfl⟩ := bif_some q
      cases r1
      cases r2 with
      | lst h rs =>
        rw [strs_rel rs qy] at h
        exact ⟨a, _, ys, rfl, rfl, .inl (.of (hs _ _ h)), of_decide_eq_true hz, kv _ (.str _)⟩
    · cases q
  · cases q) (fun d e z q => by
  unfold gJoin at q
  split at q
  · exact ⟨_, rfl⟩
  · cases q) ho he hs hbase hline
theorem f_split (ho : FE X c o fo) (he : FE X c e fe) (hs : starEach [e] X.env = [(false, eval e X.env)] := by rfl) (hbase : attributeBase o "split" X.env (eval o X.env) = eval o X.env := by rfl) (hline : (apos.endLine == pos.line) = true := by rfl) :
    FE X c (.Call (.Attribute o "split" apos) [e] [] pos) (m2 gSplit fo fe) := f_s1 F.slot_str_split F.type_str_split mt_split (fun S H d e z x y Q q r1 r2 hs kv ka => by
  unfold gSplit at q
  split at q
  · rename_i a b
    split at q
    · rename_i hz
      cases q
      cases r1; cases r2
      exact ⟨a, b, rfl, rfl, hz.1, hz.2, fun p hp => ka p _ hp (.lst upd_same (rel_strs _))⟩
    · cases q
  · cases q) (fun d e z q => by
  unfold gSplit at q
  split at q
  · exact ⟨_, rfl⟩
  · cases q) ho he hs hbase hline
theorem f_starts (ho : FE X c o fo) (he : FE X c e fe) (hs : starEach [e] X.env = [(false, eval e X.env)] := by rfl) (hbase : attributeBase o "startswith" X.env (eval o X.env) = eval o X.env := by rfl) (hline : (apos.endLine == pos.line) = true := by rfl) :
    FE X c (.Call (.Attribute o "startswith" apos) [e] [] pos) (m2 gStarts fo fe) := f_s1 F.slot_str_startswith F.type_str_startswith mt_startswith (fun S H d e z x y Q q r1 r2 hs kv ka => by
  unfold gStarts at q
  split at q
  · rename_i a b
    cases q
    cases r1; cases r2
    exact ⟨a, b, rfl, rfl, kv _ (.bl _)⟩
  · cases q) (fun d e z q => by
  unfold gStarts at q
  split at q
  · exact ⟨_, rfl⟩
  · cases q) ho he hs hbase hline
theorem f_isdigit (ho : FE X c o fo) (hbase : attributeBase o "isdigit" X.env (eval o X.env) = eval o X.env := by rfl) (hline : (apos.endLine == pos.line) = true := by rfl) :
    FE X c (.Call (.Attribute o "isdigit" apos) [] [] pos) (m1 gIsdigit fo) := f_s0 F.slot_str_isdigit F.type_str_isdigit mt_isdigit (fun S H d z x Q q r1 hs kv ka => by
  unfold gIsdigit at q
  split at q
  · cases q; cases r1
    exact ⟨_, rfl, rfl, trivial, kv _ (.bl _)⟩
  · cases q) (fun d z q => by
  unfold gIsdigit at q
  split at q
  · exact ⟨_, rfl⟩
  · cases q) ho hbase hline
theorem f_isascii (ho : FE X c o fo) (hbase : attributeBase o "isascii" X.env (eval o X.env) = eval o X.env := by rfl) (hline : (apos.endLine == pos.line) = true := by rfl) :
    FE X c (.Call (.Attribute o "isascii" apos) [] [] pos) (m1 gIsascii fo) := f_s0 F.slot_str_isascii F.type_str_isascii mt_isascii (fun S H d z x Q q r1 hs kv ka => by
  unfold gIsascii at q
  split at q
  · cases q; cases r1
    exact ⟨_, rfl, rfl, trivial, kv _ (.bl _)⟩
  · cases q) (fun d z q => by
  unfold gIsascii at q
  split at q
  · exact ⟨_, rfl⟩
  · cases q) ho hbase hline
end
/-- int of a text of digits -/
def gIntS : List D → Option D
  | [.str a] => (match PySem.intText? a with
    | some n => if a.length ≤ 640 then some (.int n) else none
    | none => none)
  | _ => none
theorem on_intS {K : PySem.W.Frag} : OpN K (fun xs H Q => ∃ a n, xs = [.str a] ∧ PySem.intText? a = some n ∧ a.length ≤ 640 ∧ Q (.int n) H) gIntS := by
  intro S H ds z xs Q q r hs kv ka
  unfold gIntS at q
  split at q
  · rename_i a
    split at q
    · rename_i n qn
      split at q
      · rename_i hz
        cases q
        cases r with
        | cons r1 r2 =>
          cases r1; cases r2
          exact ⟨a, n, rfl, qn, hz, kv _ (.int _)⟩
      · cases q
    · cases q
  · cases q
theorem f_intS {X : Cx} {c : Ct} {a : Expr} {p pos : Pos} {f : M (List D)} (ha : FA X c [a] f) (hg : Gl X "int") (hm : X.mg "int" = none) (he : starEach [a] X.env = (false, eval a X.env) :: starEach [] X.env := by rfl) (hpl : (backTo pos (starEach ([] : List Expr) X.env)).any (·.1) = false := by rfl) :
    FE X c (.Call (.Name "int" p) [a] [] pos) (mMk gIntS f) := f_bty call_int_str on_intS ha hg hm (by decide +kernel) (by decide) (by decide) he hpl
end FL

set_option Elab.async false
set_option linter.all false
set_option maxRecDepth 100000
set_option maxHeartbeats 2000000
namespace FL
open PySem PySem.Spec PyProof.Rows L2
/-! ## bool(xs), sum(xs), xs.count(True) -/
def gBoolL : List D → Option D
  | [.lst xs] => some (.bl (!xs.isEmpty))
  | _ => none
def intsD : List D → Option (List Int)
  | [] => some []
  | .int i :: ds => (match intsD ds with
    | some ns => some (i :: ns)
    | none => none)
  | _ => none
theorem ints_map : ∀ {ds : List D} {ns : List Int}, intsD ds = some ns → ds = ns.map D.int
  | [], _, e => by cases e; rfl
  | .int i :: ds, ns, e => by
    have e' : (match intsD ds with
      | some ns => some (i :: ns)
      | none => none) = some ns := e
    split at e'
    · rename_i ms q
      cases e'
      rw [ints_map q]; rfl
    · cases e'
theorem ints_of_map : ∀ ns : List Int, intsD (ns.map D.int) = some ns
  | [] => rfl
  | n :: ns => by
    show (match intsD (ns.map D.int) with
      | some ns => some (n :: ns)
      | none => none) = _
    rw [ints_of_map ns]
def gSumI : List D → Option D
  | [.lst ds] => (match intsD ds with
    | some ns => some (.int ns.sum)
    | none => none)
  | _ => none
def gCountT : D → Option D
  | .lst [.bl a, .bl b] => some (.int (a.toNat + b.toNat))
  | _ => none
section
variable {X : Cx} {c : Ct} {a : Expr} {p pos : Pos} {f : M (List D)}
theorem on_boolL {K : PySem.W.Frag} : OpN K (fun xs H Q => ∃ (a : Addr) (zs : List V), xs = [.ref a] ∧ SqL K H a zs ∧ Q (.bl (!zs.isEmpty)) H) gBoolL := by
  intro S H ds z xs Q q r hs kv ka
  unfold gBoolL at q
  split at q
  · cases q
    cases r with
    | cons r1 r2 =>
      cases r2
      cases r1 with
      | lst h rs =>
        refine ⟨_, _, rfl, .of (hs _ _ h), ?_⟩
        have := kv _ (.bl _)
        cases rs <;> exact this
  · cases q
theorem f_boolL (ha : FA X c [a] f) (hg : Gl X "bool") (hm : X.mg "bool" = none) (he : starEach [a] X.env = (false, eval a X.env) :: starEach [] X.env := by rfl) (hpl : (backTo pos (starEach ([] : List Expr) X.env)).any (·.1) = false := by rfl) :
    FE X c (.Call (.Name "bool" p) [a] [] pos) (mMk gBoolL f) := f_bty call_boolL on_boolL ha hg hm (by decide +kernel) (by decide) (by decide) he hpl
theorem on_sumI {K : PySem.W.Frag} : OpN K (rSum K) gSumI := by
  intro S H ds z xs Q q r hs kv ka
  unfold gSumI at q
  split at q
  · rename_i ds'
    split at q
    · rename_i ns qn
      cases q
      cases r with
      | cons r1 r2 =>
        cases r2
        cases r1 with
        | lst h rs =>
          rw [ints_map qn] at rs
          rw [rs.ints] at h
          exact ⟨_, ns, rfl, .of (hs _ _ h), kv _ (.int _)⟩
    · cases q
  · cases q
theorem f_sumI (hc : X.calm = true) (ha : FA X c [a] f) (hg : Gl X "sum") (hm : X.mg "sum" = none) (he : starEach [a] X.env = (false, eval a X.env) :: starEach [] X.env := by rfl) (hpl : (backTo pos (starEach ([] : List Expr) X.env)).any (·.1) = false := by rfl) :
    FE X c (.Call (.Name "sum" p) [a] [] pos) (mMk gSumI f) := f_blt (cr_sum hc) on_sumI ha hg hm (by decide +kernel) (by decide) (by decide) he hpl
end

/-! ## e not in o -/
def mInNO (cn : Str) (φ : Fn) (fa fb : M D) : M D := m1 gNot (mInO cn φ fa fb)
def rInNO (cn : Str) (K : PySem.W.Frag) (φ : Fn) : R2 := fun x y H Q => ∃ a dx fs, y = .ref a ∧ H a = some (.ins (He.ga K cn) dx fs) ∧ spF K φ [y, x] H (fun v H' => ∃ b, v = .bl b ∧ Q (.bl (!b)) H') E0
section
variable {X : Cx} {c : Ct} {k : Nat} {f : Addr} {fd : FuncData} {ps : List Str} {φ : Fn} {cn : Str} {a b : Expr} {pos : Pos} {fa fb : M D}
theorem op_inNO (F : FnOk X.prog X.w X.K X.mg X.base CX0 k f fd ps (spF X.K φ)) (hm : Meth X.K (He.ga X.K cn) "__contains__" f) (room : Room k X.A) (hb : Binds X.K fd ps []) : OpR X (compareOp .NotIn) (rInNO cn X.K φ) := by
  intro pins s σ H x y v u Q I rx ry h
  obtain ⟨a, dx, fs, rfl, ha, hsp⟩ := h
  cases ry
  obtain ⟨mA, J, _⟩ := ins_get I.hok ha
  obtain ⟨od, J, _⟩ := J.look
  obtain ⟨m, hF⟩ := I.fr
  refine PySem.W.notIn_K hF I.ok.mod.kin J hm.at_ hm.fn (wpAny_mono (run_fn (vs := [.ref a, x]) F room hb .nil pass0 I (.cons rfl (.cons rx .nil)) hsp) (fun r s' q => ?_) fun _ _ z => z)
  obtain ⟨z, H', I', rz, b, ez, q⟩ := q
  subst ez
  cases rz
  exact wpAny_pure ⟨.bl (!b), H', I', rfl, q⟩
theorem f_inNO (F : FnOk X.prog X.w X.K X.mg X.base CX0 k f fd ps (spF X.K φ)) (hm : Meth X.K (He.ga X.K cn) "__contains__" f) (room : Room k X.A) (hb : Binds X.K fd ps []) (ha : FE X c a fa) (hbb : FE X c b fb) (hbi : behindInMarks .NotIn b = false := by rfl) :
    FE X c (.Compare a [.NotIn] [b] pos) (mInNO cn φ fa fb) := (pe_cmpR (op_inNO F hm room hb) ha hbb hbi).weak fun σ H Q ⟨S, env, d, env', E, e1, kk⟩ => by
  unfold mInNO m1 at e1
  split at e1
  · cases e1
  · rename_i d0 e0 q0
    split at e1
    · cases e1
    · rename_i z qz
      cases e1
      unfold mInO at q0
      split at q0
      · rename_i da ea qa
        split at q0
        · rename_i c' fs eb qb
          split at q0
          · rename_i hc
            subst hc
            split at q0
            · rename_i r e3 q2
              cases q0
              cases qz
              refine ⟨S, env, da, ea, E, qa, fun S1 H1 v1 E1 s1 r1 => ⟨S1, ea, _, _, E1, qb, fun S2 H2 v2 E2 s2 r2 => ?_⟩⟩
              have r2' := r2
              cases r2 with
              | obj h r =>
                refine ⟨_, _, _, rfl, E2.sub _ _ h, ?_⟩
                refine ⟨_, S2, _, _, _, ER.args E2.sub (.cons r2' (.cons (r1.mono s2) .nil)), q2, fun S3 H3 v E3 s3 r3 => ?_⟩
                cases r3
                exact ⟨_, rfl, kk S3 H3 _ (E2.grow E3.s0 E3.sub E3.dom (fun b o z => E3.kep b o z fun _ z => nomatch z) E3.frs) ((s1.trans s2).trans s3) (.bl _)⟩
            · cases q0
          · cases q0
        · cases q0
      · cases q0
end

/-! ## a, b, .. = a list -/
def gUnL (gs : List FG) : FG := fun d e => match d with
  | .lst ds => gSets gs ds e
  | _ => none
section
variable {X : Cx} {c : Ct} {e a : Expr} {es : List Expr} {pos pos' : Pos}
theorem fg_tupL {gs : List FG} {k n : Nat} (hc : X.calm = true) (h : PGs X es (tGs X.K c gs)) (hl : gs.length = n) (hn : (assignEach es X.env).length = n := by rfl) (hst : (assignEach es X.env).findIdx? (·.1) = none := by rfl) : FGt X c (.Tuple es k pos) (gUnL gs) :=
  (pg_unl hc h hn hst).weak fun v σ H Q ⟨S, env, d, e', E, r, h1, kk⟩ => by
    unfold gUnL at h1
    split at h1
    · rename_i ds
      cases r with
      | lst ht rs =>
        refine ⟨_, _, rfl, .of (E.sub _ _ ht), ?_, S, env, ds, e', E, rs, h1, kk⟩
        rw [← rs.length, ← hl]
        exact gSets_len h1
    · cases h1
/-! ## x += e of ints -/
def gAugAdd : Int → Int → Int := fun i j => i + j
def gAugSub : Int → Int → Int := fun i j => i - j
def sAug (i : Nat) (g : Int → Int → Int) (f : M D) : FS := fun e => match e[i]? with
  | some (.sh (.int a)) => (match f e with
    | some (.int b, e1) => (match e1[i]? with
      | some s => if lentS s = true then none else some (.nx (e1.set i (.sh (.int (g a b)))))
      | none => none)
    | _ => none)
  | _ => none
theorem t_aug {i : Nat} {g : Int → Int → Int} {f : M D} (D' : Ends) (σ : L2.St) (H : Hp) (h : tS X.K c (sAug i g f) D' σ H) : tAug i (tM X.K c f) (ipI g) D' σ H := by
  obtain ⟨S, env, o, E, e1, k⟩ := h
  unfold sAug at e1
  split at e1
  · rename_i a qa
    split at e1
    · rename_i b e2 q
      split at e1
      · rename_i s qs
        split at e1
        · cases e1
        · rename_i hl
          cases e1
          obtain ⟨v, hv, rv⟩ := E.sh i _ qa
          cases rv
          refine ⟨_, hv, S, env, _, e2, E, q, fun S1 H1 v E1 s1 r1 => ?_⟩
          cases r1
          exact ⟨a, b, rfl, rfl, k S1 H1 _ (E1.put (fun e z => by rw [qs] at z; exact lentS_no hl (Option.some.inj z)) (.int _)) s1⟩
      · cases e1
    · cases e1
  · cases e1
theorem fs_aug_add {i : Nat} {x : Str} {f : M D} (hN : X.N.Nodup) (hi : X.N[i]? = some x) (hx : Loc X.env.scope x) (he : FE X c e f) (hf : X.fn x = true ∨ X.env.scope.names.lookup x = some .local := by first | exact .inl rfl | exact .inr rfl | assumption) :
    FSt X c (.AugAssign (.Name x pos') .Add e pos) (sAug i gAugAdd f) := (ps_aug hN hi hx he ip_add hf).weak t_aug
theorem fs_aug_sub {i : Nat} {x : Str} {f : M D} (hN : X.N.Nodup) (hi : X.N[i]? = some x) (hx : Loc X.env.scope x) (he : FE X c e f) (hf : X.fn x = true ∨ X.env.scope.names.lookup x = some .local := by first | exact .inl rfl | exact .inr rfl | assumption) :
    FSt X c (.AugAssign (.Name x pos') .Sub e pos) (sAug i gAugSub f) := (ps_aug hN hi hx he ip_sub hf).weak t_aug
end
end FL

set_option Elab.async false
set_option linter.all false
set_option maxRecDepth 100000
set_option maxHeartbeats 2000000
namespace FL
open PySem PySem.Spec PyProof.Rows L2
/-! ## == of data without a bool beside an int -/
mutual
/-- t: ints may stand in it, bools not; else the other way round -/
def okD (t : Bool) : D → Bool
  | .non => true
  | .bl _ => !t
  | .int _ => t
  | .str x => (PyData.str x).canLay0
  | .lst xs => okDs t xs
  | .tup xs => okDs t xs
  | .dic _ => false
  | .obj _ _ => false
  | .scr _ => false
  | .kls _ => false
def okDs (t : Bool) : List D → Bool
  | [] => true
  | x :: xs => okD t x && okDs t xs
end
structure PEq (d : D) (p : PyData) : Prop where
  t : toP d = some p
  l : p.canLay0 = true
  dp : p.depth = dpD d
mutual
theorem peq_of {t : Bool} : ∀ d : D, okD t d = true → ∃ p, toP d = some p ∧ p.canLay0 = true ∧ p.depth = dpD d
  | .non, _ => ⟨.none, rfl, rfl, rfl⟩
  | .bl b, _ => ⟨.bool b, rfl, rfl, rfl⟩
  | .int i, _ => ⟨.int i, rfl, rfl, rfl⟩
  | .str x, h => ⟨.str x, rfl, by simpa only [okD] using h, rfl⟩
  | .lst xs, h => by
    obtain ⟨ps, a, b, e⟩ := peqs_of xs (by simpa only [okD] using h)
    exact ⟨.list ps, by simp only [toP, a], by simpa only [PyData.canLay0] using b, by simp only [PyData.depth, dpD, e]⟩
  | .tup xs, h => by
    obtain ⟨ps, a, b, e⟩ := peqs_of xs (by simpa only [okD] using h)
    exact ⟨.tuple ps, by simp only [toP, a], by simpa only [PyData.canLay0] using b, by simp only [PyData.depth, dpD, e]⟩
  | .dic _, h => by simp [okD] at h
  | .obj _ _, h => by simp [okD] at h
  | .scr _, h => by simp [okD] at h
  | .kls _, h => by simp [okD] at h
theorem peqs_of {t : Bool} : ∀ d : List D, okDs t d = true → ∃ p, toPs d = some p ∧ PyData.canLayAll0 p = true ∧ PyData.depthAll p = dpDs d
  | [], _ => ⟨[], rfl, rfl, rfl⟩
  | x :: xs, h => by
    obtain ⟨h1, h2⟩ := Bool.and_eq_true_iff.mp (show (okD t x && okDs t xs) = true by simpa only [okDs] using h)
    obtain ⟨p, a, b, c⟩ := peq_of x h1
    obtain ⟨ps, a', b', c'⟩ := peqs_of xs h2
    exact ⟨p :: ps, by simp only [toPs, a, a'], by simp only [PyData.canLayAll0, b, b', Bool.and_self], by simp only [PyData.depthAll, dpDs, c, c']⟩
end
mutual
theorem eqv_iff {t : Bool} : ∀ (d e : D) (p q : PyData), okD t d = true → okD t e = true → toP d = some p → toP e = some q → (PyData.eqv p q = true ↔ d = e)
  | .non, e, p, q, h1, h2, a, b => by
    cases a
    cases e <;> simp only [toP, okD, Bool.false_eq_true, reduceCtorEq] at b h2 <;> first | (cases b; done) | (cases b; simp [PyData.eqv]; done) | (split at b <;> cases b; simp [PyData.eqv])
  | .bl x, e, p, q, h1, h2, a, b => by
    cases a
    cases e <;> simp only [toP, okD, Bool.false_eq_true, reduceCtorEq] at b h1 h2 <;> first | (cases b; done) | (cases b; simp [PyData.eqv]; done) | (split at b <;> cases b; simp [PyData.eqv]; done) | (rw [h2] at h1; cases h1)
  | .int x, e, p, q, h1, h2, a, b => by
    cases a
    cases e <;> simp only [toP, okD, Bool.false_eq_true, reduceCtorEq] at b h1 h2 <;> first | (cases b; done) | (rw [h1] at h2; cases h2; done) | (cases b; simp [PyData.eqv]; done) | (split at b <;> cases b; simp [PyData.eqv]; done)
  | .str x, e, p, q, h1, h2, a, b => by
    cases a
    cases e <;> simp only [toP, okD, Bool.false_eq_true, reduceCtorEq] at b h1 h2 <;> first | (cases b; done) | (cases b; simp [PyData.eqv]; done) | (split at b <;> cases b; simp [PyData.eqv]; done)
  | .lst xs, e, p, q, h1, h2, a, b => by
    simp only [toP] at a
    split at a
    · rename_i ps qa
      cases a
      cases e <;> simp only [toP, okD, Bool.false_eq_true, reduceCtorEq] at b h1 h2 <;> first | (cases b; done) | (cases b; simp [PyData.eqv]; done) | skip
      · split at b
        · rename_i qs qb
          cases b
          simp only [PyData.eqv, D.lst.injEq]
          exact eqvs_iff xs _ ps qs h1 h2 qa qb
        · cases b
      · split at b <;> cases b
        simp [PyData.eqv]
    · cases a
  | .tup xs, e, p, q, h1, h2, a, b => by
    simp only [toP] at a
    split at a
    · rename_i ps qa
      cases a
      cases e <;> simp only [toP, okD, Bool.false_eq_true, reduceCtorEq] at b h1 h2 <;> first | (cases b; done) | (cases b; simp [PyData.eqv]; done) | skip
      · split at b <;> cases b
        simp [PyData.eqv]
      · split at b
        · rename_i qs qb
          cases b
          simp only [PyData.eqv, D.tup.injEq]
          exact eqvs_iff xs _ ps qs h1 h2 qa qb
        · cases b
    · cases a
  | .dic _, e, p, q, h1, h2, a, b => by simp [okD] at h1
  | .obj _ _, e, p, q, h1, h2, a, b => by simp [okD] at h1
  | .scr _, e, p, q, h1, h2, a, b => by simp [okD] at h1
  | .kls _, e, p, q, h1, h2, a, b => by simp [okD] at h1
theorem eqvs_iff {t : Bool} : ∀ (d e : List D) (p q : List PyData), okDs t d = true → okDs t e = true → toPs d = some p → toPs e = some q → (PyData.eqvAll p q = true ↔ d = e)
  | [], [], p, q, _, _, a, b => by cases a; cases b; simp [PyData.eqvAll]
  | [], y :: ys, p, q, _, _, a, b => by
    cases a
    simp only [toPs] at b
    split at b
    · split at b <;> cases b
      simp [PyData.eqvAll]
    · cases b
  | x :: xs, [], p, q, _, _, a, b => by
    cases b
    simp only [toPs] at a
    split at a
    · split at a <;> cases a
      simp [PyData.eqvAll]
    · cases a
  | x :: xs, y :: ys, p, q, h1, h2, a, b => by
    obtain ⟨h3, h4⟩ := Bool.and_eq_true_iff.mp (show (okD t x && okDs t xs) = true by simpa only [okDs] using h1)
    obtain ⟨h5, h6⟩ := Bool.and_eq_true_iff.mp (show (okD t y && okDs t ys) = true by simpa only [okDs] using h2)
    simp only [toPs] at a b
    split at a
    · rename_i p1 q1
      split at a
      · rename_i ps q2
        cases a
        split at b
        · rename_i p2 q3
          split at b
          · rename_i qs q4
            cases b
            simp only [PyData.eqvAll, Bool.and_eq_true, List.cons.injEq]
            rw [eqv_iff x y p1 p2 h3 h5 q1 q3, eqvs_iff xs ys ps qs h4 h6 q2 q4]
          · cases b
        · cases b
      · cases a
    · cases a
end
noncomputable def same (d e : D) : Bool := chk (d = e)
theorem same_self (d : D) : same d d = true := chk_yes rfl
theorem same_iff {d e : D} : same d e = true ↔ d = e := ⟨chk_of, fun h => chk_yes h⟩
theorem eqvB {t : Bool} {d e : D} {p q : PyData} (h1 : okD t d = true) (h2 : okD t e = true) (a : toP d = some p) (b : toP e = some q) : PyData.eqv p q = same d e := by
  rw [Bool.eq_iff_iff, eqv_iff d e p q h1 h2 a b, same_iff]
theorem gEqD_ok {t : Bool} {d e : D} (h1 : okD t d = true) (h2 : okD t e = true) (d1 : dpD d ≤ 64) (d2 : dpD e ≤ 64) : gEqD d e = some (.bl (same d e)) := by
  obtain ⟨p, a, b, c⟩ := peq_of d h1
  obtain ⟨q, a', b', c'⟩ := peq_of e h2
  have ok : eqOk p q = true := chk_yes ⟨by unfold SeqAt.shaped; rw [b, c]; simpa using d1, by unfold SeqAt.shaped; rw [b', c']; simpa using d2⟩
  unfold gEqD
  rw [a, a']
  show (bif eqOk p q then some (D.bl (PyData.eqv p q)) else none) = _
  rw [ok, eqvB h1 h2 a a']
  rfl
theorem gNeD_ok {t : Bool} {d e : D} (h1 : okD t d = true) (h2 : okD t e = true) (d1 : dpD d ≤ 64) (d2 : dpD e ≤ 64) : gNeD d e = some (.bl (!same d e)) := by
  obtain ⟨p, a, b, c⟩ := peq_of d h1
  obtain ⟨q, a', b', c'⟩ := peq_of e h2
  have ok : eqOk p q = true := chk_yes ⟨by unfold SeqAt.shaped; rw [b, c]; simpa using d1, by unfold SeqAt.shaped; rw [b', c']; simpa using d2⟩
  unfold gNeD
  rw [a, a']
  show (bif eqOk p q then some (D.bl (!PyData.eqv p q)) else none) = _
  rw [ok, eqvB h1 h2 a a']
  rfl
theorem gEq_ok (t : Bool) {d e : D} (h1 : okD t d = true) (h2 : okD t e = true) (d1 : dpD d ≤ 64) (d2 : dpD e ≤ 64) : gEq d e = some (.bl (same d e)) := by
  unfold gEq
  split
  · rename_i x y
    congr 2
    rw [Bool.eq_iff_iff, same_iff]
    simp
  · exact gEqD_ok h1 h2 d1 d2
theorem gNe_ok (t : Bool) {d e : D} (h1 : okD t d = true) (h2 : okD t e = true) (d1 : dpD d ≤ 64) (d2 : dpD e ≤ 64) : gNe d e = some (.bl (!same d e)) := by
  unfold gNe
  split
  · rename_i x y
    congr 3
    rw [Bool.eq_iff_iff, same_iff]
    simp
  · exact gNeD_ok h1 h2 d1 d2
/-- in, not in -/
theorem any_same {t : Bool} {d : D} {p : PyData} (h1 : okD t d = true) (a : toP d = some p) : ∀ (xs : List D) (ps : List PyData), okDs t xs = true → toPs xs = some ps → (ps.any fun z => PyData.eqv z p) = xs.any fun x => same x d
  | [], ps, _, b => by cases b; rfl
  | x :: xs, ps, h2, b => by
    obtain ⟨h3, h4⟩ := Bool.and_eq_true_iff.mp (show (okD t x && okDs t xs) = true by simpa only [okDs] using h2)
    simp only [toPs] at b
    split at b
    · rename_i p1 q1
      split at b
      · rename_i qs q2
        cases b
        rw [List.any_cons, List.any_cons, eqvB h3 h1 q1 a, any_same h1 a xs qs h4 q2]
      · cases b
    · cases b
theorem gInL_ok (t n : Bool) {d : D} {xs : List D} (h1 : okD t d = true) (h2 : okDs t xs = true) (d1 : dpD d ≤ 64) (d2 : dpDs xs ≤ 63) : gInL n d (.lst xs) = some (.bl (n != xs.any fun x => same x d)) := by
  obtain ⟨p, a, b, c⟩ := peq_of d h1
  obtain ⟨ps, a', b', c'⟩ := peqs_of xs h2
  have ok : eqOk p (.list ps) = true := chk_yes ⟨by unfold SeqAt.shaped; rw [b, c]; simpa using d1, by
    unfold SeqAt.shaped
    simp only [PyData.canLay0, PyData.depth, b', c', Bool.true_and, decide_eq_true_eq]
    omega⟩
  unfold gInL
  rw [a]
  simp only [a', ok, cond_true, any_same h1 a xs ps h2 a']
/-! ## lists of pairs of ints -/
theorem dp_tupP (p : Int × Int) : dpD (tupP p) ≤ 64 := by
  have e : dpD (tupP p) = 1 := rfl
  omega
theorem okD_tupP (p : Int × Int) : okD true (tupP p) = true := rfl
theorem okDs_pairs : ∀ ps : List (Int × Int), okDs true (ps.map tupP) = true
  | [] => rfl
  | p :: ps => by
    show (okD true (tupP p) && okDs true (ps.map tupP)) = true
    rw [okDs_pairs ps]; rfl
theorem dpDs_pairs : ∀ ps : List (Int × Int), dpDs (ps.map tupP) ≤ 1
  | [] => Nat.zero_le _
  | p :: ps => by
    show max (dpD (tupP p)) (dpDs (ps.map tupP)) ≤ 1
    have := dpDs_pairs ps
    have e : dpD (tupP p) = 1 := rfl
    omega
theorem tupP_inj {p q : Int × Int} (h : tupP p = tupP q) : p = q := by
  simp only [tupP, D.tup.injEq, List.cons.injEq, D.int.injEq, and_true] at h
  exact Prod.ext h.1 h.2
theorem same_tupP (p q : Int × Int) : same (tupP p) (tupP q) = decide (p = q) := by
  rw [Bool.eq_iff_iff, same_iff, decide_eq_true_eq]
  exact ⟨tupP_inj, fun h => by rw [h]⟩
theorem map_tupP_inj {ps qs : List (Int × Int)} (h : ps.map tupP = qs.map tupP) : ps = qs := (List.map_inj_right fun _ _ => tupP_inj).mp h
theorem same_pairs (ps qs : List (Int × Int)) : same (.lst (ps.map tupP)) (.lst (qs.map tupP)) = decide (ps = qs) := by
  rw [Bool.eq_iff_iff, same_iff, decide_eq_true_eq]
  exact ⟨fun h => map_tupP_inj (D.lst.inj h), fun h => by rw [h]⟩
theorem eqPairs (ps qs : List (Int × Int)) : gEq (.lst (ps.map tupP)) (.lst (qs.map tupP)) = some (.bl (decide (ps = qs))) := by
  rw [gEq_ok true (by simpa only [okD] using okDs_pairs ps) (by simpa only [okD] using okDs_pairs qs) (by simp only [dpD]; have := dpDs_pairs ps; omega) (by simp only [dpD]; have := dpDs_pairs qs; omega), same_pairs]
theorem nePairs (ps qs : List (Int × Int)) : gNe (.lst (ps.map tupP)) (.lst (qs.map tupP)) = some (.bl (!decide (ps = qs))) := by
  rw [gNe_ok true (by simpa only [okD] using okDs_pairs ps) (by simpa only [okD] using okDs_pairs qs) (by simp only [dpD]; have := dpDs_pairs ps; omega) (by simp only [dpD]; have := dpDs_pairs qs; omega), same_pairs]
theorem neP1 (p q : Int × Int) : gNe (tupP p) (tupP q) = some (.bl (!decide (p = q))) := by
  rw [gNe_ok true rfl rfl (dp_tupP _) (dp_tupP _), same_tupP]
theorem inPairs (n : Bool) (p : Int × Int) (qs : List (Int × Int)) : gInL n (tupP p) (.lst (qs.map tupP)) = some (.bl (n != decide (p ∈ qs))) := by
  rw [gInL_ok true n rfl (okDs_pairs qs) (dp_tupP _) (by have := dpDs_pairs qs; omega)]
  congr 3
  rw [Bool.eq_iff_iff, decide_eq_true_eq, List.any_eq_true]
  constructor
  · rintro ⟨x, hx, h⟩
    obtain ⟨q, hq, rfl⟩ := List.mem_map.mp hx
    rw [same_iff] at h
    exact tupP_inj h ▸ hq
  · intro h
    exact ⟨tupP p, List.mem_map.mpr ⟨p, h, rfl⟩, same_self _⟩
end FL
namespace FL
open PySem PySem.Spec PyProof.Rows L2
/-! ## such comparisons as tests -/
section
variable {X : Cx} {c : Ct} {a b : Expr} {pos pos' : Pos} {op : CmpOp} {r : R2} {ta tb : TE} {f : M D}
theorem ft_ofOp (ho : OpR X (compareOp op) r) (ha : PE X a ta) (hb : PE X b tb) (hm : behindInMarks op b = false) (w : ∀ σ H Q, tM X.K c f σ H Q → tOp r ta tb σ H Q) : FT X c (.Compare a [op] [b] pos) (mTb f) :=
  (pt_cmpR ho ha hb hm).weak fun σ H Q ⟨S, env, d, env', E, e1, k⟩ => by
    unfold mTb at e1
    split at e1
    · rename_i b' e' q
      cases e1
      refine w σ H _ ⟨S, env, _, _, E, q, fun S1 H1 v E1 s1 r1 => ?_⟩
      cases r1
      exact ⟨_, rfl, k S1 H1 E1 s1⟩
    · cases e1
variable {fa fb : M D} {ha' hb' : M Hd} {k : Nat} {f' : Addr} {fd : FuncData} {ps : List Str} {φ : Fn} {cn : Str} {j}
theorem ft_inL (room : Room k X.A) (ha : FH X c a ha') (hb : FH X c b hb') (hm : behindInMarks .In b = false := by rfl) : FT X c (.Compare a [.In] [b] pos) (mTb (m2H (gInL false) ha' hb')) := ft_ofOp (op_inD (by have := room.un; omega)) ha hb hm (t2H o2_inL)
theorem ft_notInL (room : Room k X.A) (ha : FH X c a ha') (hb : FH X c b hb') (hm : behindInMarks .NotIn b = false := by rfl) : FT X c (.Compare a [.NotIn] [b] pos) (mTb (m2H (gInL true) ha' hb')) := ft_ofOp (op_notInD (by have := room.un; omega)) ha hb hm (t2H o2_notInL)
theorem ft_isN (ha : FH X c a ha') (hm : behindInMarks .Is (.Constant .none j pos') = false := by rfl) : FT X c (.Compare a [.Is] [.Constant .none j pos'] pos) (mTb (m1H gIsN ha')) :=
  ft_ofOp op_isN ha pe_non hm (t_isN gIsN (fun v => decide (v = V.non)) fun S H d z v q w => by cases q; rw [non_vw w])
theorem ft_notN (ha : FH X c a ha') (hm : behindInMarks .IsNot (.Constant .none j pos') = false := by rfl) : FT X c (.Compare a [.IsNot] [.Constant .none j pos'] pos) (mTb (m1H gNotN ha')) :=
  ft_ofOp op_notN ha pe_non hm (t_isN gNotN (fun v => !decide (v = V.non)) fun S H d z v q w => by cases q; rw [non_vw w])
theorem ft_eqX {j : Nat} (cf : ClsF X.K cn) (F : FnOk X.prog X.w X.K X.mg X.base CX0 k f' fd ps (spF X.K φ)) (hm : Meth X.K (He.ga X.K cn) "__eq__" f') (room : Room (k + 1) X.A) (hb : Binds X.K fd ps []) (ha : FE X c a fa) (hbb : FE X c b fb) (hbi : behindInMarks .Eq b = false := by rfl) :
    FT X c (.Compare a [.Eq] [b] pos) (mTb (mCmpX cn φ false fa fb)) := ft_ofOp (op2_or (op_eqX cf F hm (room.mono (by omega)) hb) (op2_or op_eq (op_eqD room.units))) ha hbb hbi (t_cmpX o2_eq)
theorem ft_neX {j : Nat} (cf : ClsF X.K cn) (F : FnOk X.prog X.w X.K X.mg X.base CX0 k f' fd ps (spF X.K φ)) (hm : Meth X.K (He.ga X.K cn) "__eq__" f') (room : Room (k + 1) X.A) (hb : Binds X.K fd ps []) (ha : FE X c a fa) (hbb : FE X c b fb) (hbi : behindInMarks .NotEq b = false := by rfl) :
    FT X c (.Compare a [.NotEq] [b] pos) (mTb (mCmpX cn φ true fa fb)) := ft_ofOp (op2_or (op_neX cf F hm room hb) (op2_or op_ne (op_neD room.units))) ha hbb hbi (t_cmpX o2_ne)
theorem t_inO (σ : L2.St) (H : Hp) (Q : VK) (h : tM X.K c (mInO cn φ fa fb) σ H Q) : tOp (rInO cn X.K φ) (tM X.K c fa) (tM X.K c fb) σ H Q := by
  obtain ⟨S, env, d, env', E, e1, kk⟩ := h
  unfold mInO at e1
  split at e1
  · rename_i da ea qa
    split at e1
    · rename_i c' fs eb qb
      split at e1
      · rename_i hc
        subst hc
        split at e1
        · rename_i r e3 q2
          cases e1
          refine ⟨S, env, da, ea, E, qa, fun S1 H1 v1 E1 s1 r1 => ⟨S1, ea, _, _, E1, qb, fun S2 H2 v2 E2 s2 r2 => ?_⟩⟩
          have r2' := r2
          cases r2 with
          | obj h r =>
            refine ⟨_, _, _, rfl, E2.sub _ _ h, ?_⟩
            refine ⟨_, S2, _, _, _, ER.args E2.sub (.cons r2' (.cons (r1.mono s2) .nil)), q2, fun S3 H3 v E3 s3 r3 => ?_⟩
            cases r3
            exact ⟨_, rfl, kk S3 H3 _ (E2.grow E3.s0 E3.sub E3.dom (fun b o z => E3.kep b o z fun _ z => nomatch z) E3.frs) ((s1.trans s2).trans s3) (.bl _)⟩
        · cases e1
      · cases e1
    · cases e1
  · cases e1
theorem t_inNO (σ : L2.St) (H : Hp) (Q : VK) (h : tM X.K c (mInNO cn φ fa fb) σ H Q) : tOp (rInNO cn X.K φ) (tM X.K c fa) (tM X.K c fb) σ H Q := by
  obtain ⟨S, env, d, env', E, e1, kk⟩ := h
  unfold mInNO m1 at e1
  split at e1
  · cases e1
  · rename_i d0 e0 q0
    split at e1
    · cases e1
    · rename_i z qz
      cases e1
      have h0 : tM X.K c (mInO cn φ fa fb) σ H (fun v H' => ∃ b, v = .bl b ∧ Q (.bl (!b)) H') := ⟨S, env, d0, _, E, q0, fun S1 H1 v E1 s1 r1 => by
        unfold gNot at qz
        split at qz
        · cases qz
          cases r1
          exact ⟨_, rfl, kk S1 H1 _ E1 s1 (.bl _)⟩
        · cases qz⟩
      have h1 := t_inO σ H _ h0
      obtain ⟨S1, env1, d1, env2, E1, q1, k1⟩ := h1
      refine ⟨S1, env1, d1, env2, E1, q1, fun S2 H2 v2 E2 s2 r2 => ?_⟩
      obtain ⟨S3, env3, d3, env4, E3, q3, k3⟩ := k1 S2 H2 v2 E2 s2 r2
      refine ⟨S3, env3, d3, env4, E3, q3, fun S4 H4 v4 E4 s4 r4 => ?_⟩
      obtain ⟨a, dx, fs, hy, ha, hsp⟩ := k3 S4 H4 v4 E4 s4 r4
      refine ⟨a, dx, fs, hy, ha, ?_⟩
      obtain ⟨L, S5, env5, d5, env6, E5, q5, k5⟩ := hsp
      refine ⟨L, S5, env5, d5, env6, E5, q5, fun S6 H6 v6 E6 s6 r6 => ?_⟩
      obtain ⟨b, hb, b', hb', q⟩ := k5 S6 H6 v6 E6 s6 r6
      subst hb
      cases hb'
      exact ⟨_, rfl, q⟩
theorem ft_inO (F : FnOk X.prog X.w X.K X.mg X.base CX0 k f' fd ps (spF X.K φ)) (hm : Meth X.K (He.ga X.K cn) "__contains__" f') (room : Room k X.A) (hb : Binds X.K fd ps []) (ha : FE X c a fa) (hbb : FE X c b fb) (hbi : behindInMarks .In b = false := by rfl) :
    FT X c (.Compare a [.In] [b] pos) (mTb (mInO cn φ fa fb)) := ft_ofOp (op_inO F hm room hb) ha hbb hbi t_inO
theorem ft_inNO (F : FnOk X.prog X.w X.K X.mg X.base CX0 k f' fd ps (spF X.K φ)) (hm : Meth X.K (He.ga X.K cn) "__contains__" f') (room : Room k X.A) (hb : Binds X.K fd ps []) (ha : FE X c a fa) (hbb : FE X c b fb) (hbi : behindInMarks .NotIn b = false := by rfl) :
    FT X c (.Compare a [.NotIn] [b] pos) (mTb (mInNO cn φ fa fb)) := ft_ofOp (op_inNO F hm room hb) ha hbb hbi t_inNO
end
end FL
namespace FL
open PySem PySem.Spec PyProof.Rows L2
theorem tg_tupK {X : Cx} {pos : Pos} {vs : List Nat} (K : PySem.W.Frag) (is : List Nat) {es : List Expr} {k n : Nat} (hK : X.K = K) (hc : X.calm = true) (h : PGs X es (gNames is)) (hl : is.length = n) (hi : ∀ i ∈ is, i ∈ vs) (hn : (assignEach es X.env).length = n := by rfl) (hst : (assignEach es X.env).findIdx? (·.1) = none := by rfl) :
    TgOk X vs (.Tuple es k pos) (gUn (is.map gSet)) (gTup K n (gNames is)) := by
  subst hK
  exact tg_tup hc h hl hi hn hst
end FL

set_option Elab.async false
set_option linter.all false
set_option maxRecDepth 100000
set_option maxHeartbeats 2000000
namespace FL
open PySem PySem.Spec PyProof.Rows L2
/-! ## a comprehension over an own list, which stays the def's own -/
noncomputable def keepB (i : Nat) (ds : List D) (e : En) : Bool := match e[i]? with
  | some (.ow _ (.lst xs)) => chk (xs = ds)
  | _ => false
theorem keepB_iff {i : Nat} {ds : List D} {e : En} (h : keepB i ds e = true) : ∃ f, e[i]? = some (.ow f (.lst ds)) := by
  unfold keepB at h
  split at h
  · rename_i f xs q
    have := chk_of h
    subst this
    exact ⟨f, q⟩
  · cases h
theorem keepB_yes {i : Nat} {ds : List D} {e : En} {f : Bool} (h : e[i]? = some (.ow f (.lst ds))) : keepB i ds e = true := by
  unfold keepB
  rw [h]
  exact chk_yes rfl
noncomputable def compH (i : Nat) (d0 : List D) (vs : List Nat) (set : FG) (t : M Bool) (el : M D) : List D → En → Option (List D × En)
  | [], e => bif keepB i d0 e then some ([], e) else none
  | d :: r, e => bif keepB i d0 e then (bif freeE vs e then (match set d (wipeE vs (lend e)) with
    | some e1 => (match t e1 with
      | some (b, e2) => bif b then (match el e2 with
          | some (x, e3) => (match compH i d0 vs set t el r (backC e e3) with
            | some (xs, e4) => some (x :: xs, e4)
            | none => none)
          | none => none) else compH i d0 vs set t el r (backC e e2)
      | none => none)
    | none => none) else none) else none
noncomputable def mCompH (i : Nat) (set : FG) (t : M Bool) (el : M D) (vs : List Nat) : M D := fun e => match e[i]? with
  | some (.ow _ (.lst ds)) => (match compH i ds vs set t el ds e with
    | some (xs, e2) => bif cLen xs.length then some (.lst xs, e2) else none
    | none => none)
  | _ => none
theorem compH_keep {i : Nat} {d0 : List D} {vs : List Nat} {set : FG} {t : M Bool} {el : M D} : ∀ {l : List D} {e : En} {r : List D × En}, compH i d0 vs set t el l e = some r → keepB i d0 e = true
  | [], e, r, h => by
    unfold compH at h
    cases hk : keepB i d0 e with
    | true => rfl
    | false => rw [hk] at h; cases h
  | d :: l, e, r, h => by
    unfold compH at h
    cases hk : keepB i d0 e with
    | true => rfl
    | false => rw [hk] at h; cases h
section
variable {K : PySem.W.Frag} {c : Ct} {S1 S H : Hp} {σ : L2.St} {Dd : Addr} {e : En} {xs : List D} {acc : List V} {vs : List Nat} {set : FG} {t : M Bool} {el : M D} {g : TG} {i : Nat} {d0 : List D}
theorem comp_turnH {ds ys : List D} {d : D} {v : V} {eF : En} (C : CS K c S1 σ Dd S H e xs acc) (rd : ∃ S', Same S' H ∧ Same S S' ∧ RelD K S d v) (q : compH i d0 vs set t el (d :: ds) e = some (ys, eF)) (hlen : xs.length + ys.length ≤ 1000000)
    (hg : ∀ (c : Ct) (S H : Hp) (σ : L2.St) (env e' : En) (d : D) (v : V) (Q : L2.St → Hp → Prop), Er K c S H σ env → RelD K S d v → set d env = some e' → (∀ σ', Er K c S H σ' e' → wipe σ' vs = wipe σ vs → Q σ' H) → g v σ H Q)
    (Pn : Hp → Prop) (nx : ∀ S2 H2 e2 xs2 acc2 ys2, CS K c S1 σ Dd S2 H2 e2 xs2 acc2 → compH i d0 vs set t el ds e2 = some (ys2, eF) → xs2 ++ ys2 = xs ++ ys → Pn H2) :
    g v (wipe σ vs) H fun σ2 H2 => wipe σ2 vs = wipe σ vs ∧ eT K t σ2 H2 fun b H3 => if b = true then eE K el σ2 H3 fun y H4 => ∃ acc, H4 Dd = some (.lst acc) ∧ acc.length < sizeLine ∧ Pn (upd H4 Dd (.lst (acc ++ [y]))) else Pn H3 := by
  have hk := compH_keep q
  unfold compH at q
  rw [hk] at q
  obtain ⟨_, _, _, rd⟩ := rd
  cases hf : freeE vs e with
  | false => rw [hf] at q; cases q
  | true =>
    rw [hf] at q
    have q' : (match set d (wipeE vs (lend e)) with
      | some e1 => (match t e1 with
        | some (b, e2) => bif b then (match el e2 with
            | some (x, e3) => (match compH i d0 vs set t el ds (backC e e3) with
              | some (xs, e4) => some (x :: xs, e4)
              | none => none)
            | none => none) else compH i d0 vs set t el ds (backC e e2)
        | none => none)
      | none => none) = some (ys, eF) := q
    have E1 := ER.wipes vs C.E.rebase (lentOf_free hf)
    have nlen : ∀ {e2 : En} {σ2 : L2.St} {S2 H2 : Hp}, ER K (lentOf σ e) S H S2 H2 σ2 e2 → wipe σ2 vs = wipe σ vs → e.length = e2.length := fun {e2 σ2 S2 H2} E2 w => by
      have h1 := congrArg List.length w
      rw [wipe_length, wipe_length] at h1
      rw [C.E.len, ← h1, E2.len]
    have fin : ∀ {e2 : En} {σ2 : L2.St} {S2 H2 : Hp}, ER K (lentOf σ e) S H S2 H2 σ2 e2 → wipe σ2 vs = wipe σ vs → CS K c S1 σ Dd S2 H2 (backC e e2) xs acc := fun {e2 σ2 S2 H2} E2 w => by
      refine ⟨ER.unbaseC C.E E2 (nlen E2 w), C.s.trans E2.s0, ?_, C.d0, fun j f x z => ?_, E2.kep Dd _ C.h fun i z => ?_, C.r.mono E2.s0⟩
      · cases e0 : S2 Dd with
        | none => rfl
        | some o =>
          rcases E2.frs Dd (by rw [e0]; exact fun z => nomatch z) with z | z
          · exact absurd C.d z
          · rw [C.h] at z; cases z
      · obtain ⟨y, z⟩ := backC_ow z
        exact C.fr j f y z
      · obtain ⟨f, d0, a, b⟩ := lentOf_some z
        exact C.fr i f d0 a b
    split at q'
    · rename_i e1 q1
      refine hg ⟨lentOf σ e, S, H⟩ S H (wipe σ vs) _ e1 d v _ E1 rd q1 fun σ2 E2 w2 => ?_
      have w2' : wipe σ2 vs = wipe σ vs := by rw [w2, wipe_self fun _ h => h]
      refine ⟨w2', ⟨lentOf σ e, S, H⟩, S, e1, ?_⟩
      split at q'
      · rename_i b e2 q2
        refine ⟨b, e2, E2, q2, fun S3 H3 E3 s3 => ?_⟩
        cases b with
        | false => exact iteF (nx S3 H3 _ xs acc ys (fin E3 w2') q' rfl)
        | true =>
          have q'' : (match el e2 with
            | some (x, e3) => (match compH i d0 vs set t el ds (backC e e3) with
              | some (xs, e4) => some (x :: xs, e4)
              | none => none)
            | none => none) = some (ys, eF) := q'
          refine iteT ⟨⟨lentOf σ e, S, H⟩, S3, e2, ?_⟩
          split at q''
          · rename_i x e3 q3
            split at q''
            · rename_i ys' e4 q4
              cases q''
              refine ⟨x, e3, E3, q3, fun S4 H4 y E4 s4 r4 => ?_⟩
              have C4 := fin E4 w2'
              refine ⟨acc, C4.h, ?_, nx S4 _ (backC e e3) (xs ++ [x]) (acc ++ [y]) ys' ?_ q4 (by simp)⟩
              · rw [← C4.r.length]
                rw [List.length_cons] at hlen
                exact Nat.lt_of_lt_of_le (by omega : xs.length < 1000000) (by decide)
              · exact ⟨C4.E.side C4.d C4.d0 C4.fr, C4.s, C4.d, C4.d0, C4.fr, upd_same, C4.r.append (.cons r4 .nil)⟩
            · cases q''
          · cases q''
      · cases q'
    · cases q'
end
section
variable {X : Cx} {c : Ct} {elt tg iter : Expr} {ifs : List Expr} {scope : Scope} {own : List (Str × Nat)} {pos : Pos} {set : FG} {t : M Bool} {el : M D} {g : TG} {i : Nat}
theorem t_compH (hg : ∀ (c : Ct) (S H : Hp) (σ : L2.St) (env e' : En) (d : D) (v : V) (Q : L2.St → Hp → Prop), Er X.K c S H σ env → RelD X.K S d v → set d env = some e' → (∀ σ', Er X.K c S H σ' e' → wipe σ' (own.map (·.2)) = wipe σ (own.map (·.2)) → Q σ' H) → g v σ H Q)
    (σ : L2.St) (H : Hp) (Q : VK) (h : tO X.K c (mCompH i set t el (own.map (·.2))) σ H Q) : tLc (iList X.K (tVar i)) g (eT X.K t) (eE X.K el) (own.map (·.2)) σ H Q := by
  obtain ⟨S, env, d, env', E, e1, kk⟩ := h
  unfold mCompH at e1
  split at e1
  · rename_i f0 ds qi
    split at e1
    · rename_i zs eF qc
      obtain ⟨hz, hp⟩ := bif_some e1
      cases hp
      have hz' : zs.length ≤ 1000000 := of_decide_eq_true hz
      obtain ⟨a, ha, ⟨us, hu, rs⟩, _, _⟩ := E.ow i f0 _ qi
      refine ⟨_, ha, a, rfl, ⟨us, .of hu⟩, fun Dd hD => ?_⟩
      -- at every turn the list stands there, with items for ds
      have st : ∀ {S2 H2 : Hp} {e2 : En} {xs : List D} {acc : List V}, CS X.K c S σ Dd S2 H2 e2 xs acc → keepB i ds e2 = true → ∃ ws, H2 a = some (.lst ws) ∧ RelDs X.K S2 ds ws := fun C hk => by
        obtain ⟨f, q⟩ := keepB_iff hk
        obtain ⟨a', ha', ⟨ws, hw, rw'⟩, _, _⟩ := C.E.ow i f _ q
        rw [ha] at ha'; cases ha'
        exact ⟨ws, hw, rw'⟩
      refine ⟨fun k m H => m = ds.length - k ∧ k ≤ ds.length ∧ ∃ S2 e xs acc ys, CS X.K c S σ Dd S2 H e xs acc ∧ compH i ds (own.map (·.2)) set t el (ds.drop k) e = some (ys, env') ∧ xs ++ ys = zs, ?_, ?_⟩
      · exact ⟨ds.length, by omega, Nat.zero_le _, S, env, [], [], zs, comp_start E hD, by rw [List.drop_zero]; exact qc, rfl⟩
      · rintro k m H' ⟨rfl, hk, S2, e, xs, acc, ys, C, q2, hy⟩
        obtain ⟨ws, hw, rw'⟩ := st C (compH_keep q2)
        have hl := rw'.length
        by_cases hlt : k < ds.length
        · have hx : ws[k]? = some (ws[k]'(by omega)) := List.getElem?_eq_getElem _
          refine .inr ⟨⟨ws, _, .of hw, hx⟩, fun H3 => ∃ S3 e3 xs3 acc3 ys3, CS X.K c S σ Dd S3 H3 e3 xs3 acc3 ∧ compH i ds (own.map (·.2)) set t el (ds.drop (k + 1)) e3 = some (ys3, env') ∧ xs3 ++ ys3 = zs, fun H3 h3 => ⟨ds.length - (k + 1), by omega, rfl, hlt, h3⟩, fun x H3 y => ?_⟩
          obtain ⟨rfl, y⟩ := y
          have hxx := y ws (.of hw)
          rw [List.drop_eq_getElem_cons hlt] at q2
          obtain ⟨x', hx', rx⟩ := rw'.get (List.getElem?_eq_getElem hlt)
          rw [hxx] at hx'; cases hx'
          refine comp_turnH C ⟨S2, C.E.sub, Same.refl _, rx⟩ q2 (by have := congrArg List.length hy; rw [List.length_append] at this; omega) hg _ fun S3 H3 e3 xs3 acc3 ys3 C3 q3 hy3 => ⟨S3, e3, xs3, acc3, ys3, C3, q3, hy3.trans hy⟩
        · have hkk : k = ds.length := by omega
          subst hkk
          rw [List.drop_eq_nil_of_le (Nat.le_refl _)] at q2
          have hkeep := compH_keep q2
          unfold compH at q2
          rw [hkeep] at q2
          cases q2
          rw [List.append_nil] at hy
          subst hy
          exact .inl ⟨⟨ws, .of hw, by omega⟩, comp_done C fun S' H' p E' s' => kk S' H' p E' s'⟩
    · cases e1
  · cases e1
theorem fo_compH {x : Str} {px : Pos} (hc : X.calm = true) (hN : X.N.Nodup) (ok : BlkOk X.N X.env.scope scope own) (hi : PE X (.Name x px) (tVar i))
    (hg : ∀ (s : Shared) (H : Hp) (C : Addr) (cl : List (Str × Addr)) (fp : List Addr), TgOk (X.blk s H scope (compEnvC scope cl C X.env) fp) (own.map (·.2)) tg set g) (ht : ∀ (s : Shared) (H : Hp) (C : Addr) (cl : List (Str × Addr)) (fp : List Addr), PTs (X.blk s H scope (compEnvC scope cl C X.env) fp) ifs (eT X.K t))
    (he : ∀ (s : Shared) (H : Hp) (C : Addr) (cl : List (Str × Addr)) (fp : List Addr), PE (X.blk s H scope (compEnvC scope cl C X.env) fp) elt (eE X.K el)) (hs : ∀ z, foldedSetIterable (.Name x px) X.env z = pure z := by intro _; rfl) :
    FO X c (.ListComp elt [⟨tg, .Name x px, ifs, 0⟩] scope pos) (mCompH i set t el (own.map (·.2))) :=
  (pe_lc hc hN (pi_list hi) ok (fun s H C cl fp => (hg s H C cl fp).1) ht he hs).weak (t_compH (hg X.s_0 (fun _ => none) 0 [] []).2)
end
end FL

set_option Elab.async false
set_option linter.all false
set_option maxRecDepth 100000
set_option maxHeartbeats 2000000
namespace FL
open PySem PySem.Spec PyProof.Rows L2
/-! ## comprehensions that change nothing: a filter, a map -/
/-- one turn: the test says b, the element is z, the slots stay -/
structure CT (vs : List Nat) (set : FG) (t : M Bool) (el : M D) (env : En) (d : D) (b : Bool) (z : D) : Prop where
  turn : ∃ e1 e2, set d (wipeE vs (lend env)) = some e1 ∧ t e1 = some (b, e2) ∧ backC env e2 = env ∧ (b = true → ∃ e3, el e2 = some (z, e3) ∧ backC env e3 = env)
theorem comp_map {α : Type} {vs : List Nat} {set : FG} {t : M Bool} {el : M D} {env : En} {g f : α → D} {p : α → Bool} (hf : freeE vs env = true) : ∀ (xs : List α), (∀ x ∈ xs, CT vs set t el env (g x) (p x) (f x)) → compF vs set t el (xs.map g) env = some ((xs.filter p).map f, env)
  | [], _ => rfl
  | x :: xs, h => by
    have ih := comp_map hf xs fun y hy => h y (List.mem_cons_of_mem _ hy)
    obtain ⟨e1, e2, h1, h2, h3, h4⟩ := (h x List.mem_cons_self).turn
    rw [List.map_cons]
    unfold compF
    rw [hf]
    show (match set (g x) (wipeE vs (lend env)) with
      | some e1 => (match t e1 with
        | some (b, e2) => bif b then (match el e2 with
            | some (x, e3) => (match compF vs set t el (xs.map g) (backC env e3) with
              | some (xs, e4) => some (x :: xs, e4)
              | none => none)
            | none => none) else compF vs set t el (xs.map g) (backC env e2)
        | none => none)
      | none => none) = _
    rw [h1]
    show (match t e1 with
        | some (b, e2) => bif b then (match el e2 with
            | some (x, e3) => (match compF vs set t el (xs.map g) (backC env e3) with
              | some (xs, e4) => some (x :: xs, e4)
              | none => none)
            | none => none) else compF vs set t el (xs.map g) (backC env e2)
        | none => none) = _
    rw [h2]
    cases hb : p x with
    | false =>
      show compF vs set t el (xs.map g) (backC env e2) = _
      rw [h3, ih, List.filter_cons, hb]
      rfl
    | true =>
      obtain ⟨e3, h5, h6⟩ := h4 hb
      show (match el e2 with
            | some (x, e3) => (match compF vs set t el (xs.map g) (backC env e3) with
              | some (xs, e4) => some (x :: xs, e4)
              | none => none)
            | none => none) = _
      rw [h5]
      show (match compF vs set t el (xs.map g) (backC env e3) with
              | some (xs, e4) => some (f x :: xs, e4)
              | none => none) = _
      rw [h6, ih, List.filter_cons, hb]
      rfl
theorem compH_map {α : Type} {i : Nat} {d0 : List D} {vs : List Nat} {set : FG} {t : M Bool} {el : M D} {env : En} {g f : α → D} {p : α → Bool} (hf : freeE vs env = true) (hk : keepB i d0 env = true) : ∀ (xs : List α), (∀ x ∈ xs, CT vs set t el env (g x) (p x) (f x)) → compH i d0 vs set t el (xs.map g) env = some ((xs.filter p).map f, env)
  | [], _ => by
    rw [List.map_nil]
    unfold compH
    rw [hk]
    rfl
  | x :: xs, h => by
    have ih := compH_map hf hk xs fun y hy => h y (List.mem_cons_of_mem _ hy)
    obtain ⟨e1, e2, h1, h2, h3, h4⟩ := (h x List.mem_cons_self).turn
    rw [List.map_cons]
    unfold compH
    rw [hk, hf]
    show (match set (g x) (wipeE vs (lend env)) with
      | some e1 => (match t e1 with
        | some (b, e2) => bif b then (match el e2 with
            | some (x, e3) => (match compH i d0 vs set t el (xs.map g) (backC env e3) with
              | some (xs, e4) => some (x :: xs, e4)
              | none => none)
            | none => none) else compH i d0 vs set t el (xs.map g) (backC env e2)
        | none => none)
      | none => none) = _
    rw [h1]
    show (match t e1 with
        | some (b, e2) => bif b then (match el e2 with
            | some (x, e3) => (match compH i d0 vs set t el (xs.map g) (backC env e3) with
              | some (xs, e4) => some (x :: xs, e4)
              | none => none)
            | none => none) else compH i d0 vs set t el (xs.map g) (backC env e2)
        | none => none) = _
    rw [h2]
    cases hb : p x with
    | false =>
      show compH i d0 vs set t el (xs.map g) (backC env e2) = _
      rw [h3, ih, List.filter_cons, hb]
      rfl
    | true =>
      obtain ⟨e3, h5, h6⟩ := h4 hb
      show (match el e2 with
            | some (x, e3) => (match compH i d0 vs set t el (xs.map g) (backC env e3) with
              | some (xs, e4) => some (x :: xs, e4)
              | none => none)
            | none => none) = _
      rw [h5]
      show (match compH i d0 vs set t el (xs.map g) (backC env e3) with
              | some (xs, e4) => some (f x :: xs, e4)
              | none => none) = _
      rw [h6, ih, List.filter_cons, hb]
      rfl
/-- a loop whose turns make one state of another: env by the state, what is left of the slots in between -/
theorem loop_st {α β : Type} {set : FG} {body : FS} (g : α → D) (step : β → α → β) (J : β → En → Prop) (ok : β → α → Prop) : ∀ (xs : List α) (s : β) (e : En), J s e → (∀ (s : β) (x : α) (e : En), x ∈ xs → J s e → ∃ e1 e2, set (g x) e = some e1 ∧ body e1 = some (.nx e2) ∧ J (step s x) e2) →
    ∃ e', loopF set body (xs.map g) e = some (.nx e') ∧ J (xs.foldl step s) e'
  | [], s, e, h, _ => ⟨e, rfl, h⟩
  | x :: xs, s, e, h, st => by
    obtain ⟨e1, e2, q1, q2, h2⟩ := st s x e List.mem_cons_self h
    obtain ⟨e3, q3, h3⟩ := loop_st g step J ok xs (step s x) e2 h2 fun s y e hy => st s y e (List.mem_cons_of_mem _ hy)
    refine ⟨e3, ?_, h3⟩
    rw [List.map_cons]
    unfold loopF
    rw [q1]
    show (match body e1 with
      | some (.nx e2) => loopF set body (xs.map g) e2
      | some (.ct e2) => loopF set body (xs.map g) e2
      | some (.bk e2) => some (.nx e2)
      | some (.rt d e2) => some (.rt d e2)
      | some (.ro d e2) => some (.ro d e2)
      | none => none) = _
    rw [q2]
    exact q3
end FL
namespace FL
open PySem PySem.Spec PyProof.Rows L2
/-! ## slots that nobody looks at, through a comprehension -/
def lendS : Sl → Sl
  | .ow _ d => .ow false d
  | s => s
theorem lend_nil : lend [] = [] := rfl
theorem lend_cons (x : Sl) (e : En) : lend (x :: e) = lendS x :: lend e := by
  unfold lend
  rw [List.map_cons]
  cases x <;> rfl
theorem lendS_sh (d : D) : lendS (.sh d) = .sh d := rfl
theorem lendS_un : lendS .un = .un := rfl
theorem lendS_ow (f : Bool) (d : D) : lendS (.ow f d) = .ow false d := rfl
theorem backCS_lendS (x : Sl) : backCS x (lendS x) = x := by cases x <;> rfl
theorem backCS_sh (d : D) (x : Sl) : backCS (.sh d) x = .sh d := by cases x <;> rfl
theorem backCS_un (x : Sl) : backCS .un x = .un := by cases x <;> rfl
theorem backCS_ow (f g : Bool) (d d' : D) : backCS (.ow f d) (.ow g d') = .ow f d' := rfl
theorem backC_nil : backC [] [] = [] := rfl
theorem backC_cons (x y : Sl) (e e' : En) : backC (x :: e) (y :: e') = backCS x y :: backC e e' := rfl
theorem isOw_un : isOw .un = false := rfl
theorem isOw_sh (d : D) : isOw (.sh d) = false := rfl
end FL
namespace FL
open PySem PySem.Spec PyProof.Rows L2
/-- .. with the number of turns that are done -/
theorem loop_ix {set : FG} {body : FS} (I : Nat → En → Prop) : ∀ (ds : List D) (k : Nat) (e : En), I k e → (∀ d ∈ ds, ∀ k e, I k e → ∃ e1 e2, set d e = some e1 ∧ body e1 = some (.nx e2) ∧ I (k + 1) e2) → ∃ e', loopF set body ds e = some (.nx e') ∧ I (k + ds.length) e'
  | [], k, e, h, _ => ⟨e, rfl, h⟩
  | d :: ds, k, e, h, st => by
    obtain ⟨e1, e2, q1, q2, h2⟩ := st d List.mem_cons_self k e h
    obtain ⟨e3, q3, h3⟩ := loop_ix I ds (k + 1) e2 h2 fun d hd => st d (List.mem_cons_of_mem _ hd)
    refine ⟨e3, ?_, by rw [List.length_cons]; have e : k + (ds.length + 1) = k + 1 + ds.length := by omega
                       rw [e]; exact h3⟩
    unfold loopF
    rw [q1]
    show (match body e1 with
      | some (.nx e2) => loopF set body ds e2
      | some (.ct e2) => loopF set body ds e2
      | some (.bk e2) => some (.nx e2)
      | some (.rt d e2) => some (.rt d e2)
      | some (.ro d e2) => some (.ro d e2)
      | none => none) = _
    rw [q2]
    exact q3
end FL
namespace FL
open PySem PySem.Spec PyProof.Rows L2
/-! ## step by step -/
section
variable {e e1 e2 e3 : En} {f g : FS} {t a b : M Bool} {m : M D} {d : D} {o : Out}
theorem seq_nx (h : f e = some (.nx e1)) : sSeq f g e = g e1 := by unfold sSeq; rw [h]
theorem asg_nx {s : FG} (h : m e = some (d, e1)) (h2 : s d e1 = some e2) : sAsg s m e = some (.nx e2) := by
  unfold sAsg; rw [h]
  show (match s d e1 with
    | some e2 => some (Out.nx e2)
    | none => none) = _
  rw [h2]
theorem if_no (h : t e = some (false, e1)) : sIf t f g e = g e1 := by unfold sIf; rw [h]; rfl
theorem if_yes (h : t e = some (true, e1)) : sIf t f g e = f e1 := by unfold sIf; rw [h]; rfl
theorem or_ff (ha : a e = some (false, e1)) (hb : b e1 = some (false, e2)) : mTOr a b e = some (false, e2) := by unfold mTOr; rw [ha]; exact hb
theorem forR_c {s : FG} {i : Int} {n : Nat} (hi : i = (n : Int)) (hr : rgOk i = true) (q : loopF s f (upTo n) e = some o) : sForR (mCons (mC (.int i)) mNil) s f e = some o := by
  unfold sForR
  have hm : mCons (mC (.int i)) mNil e = some ([.int i], e) := rfl
  rw [hm]
  show (if rgOk i = true then loopF s f (upTo i.toNat) e else none) = _
  rw [if_pos hr, hi, Int.toNat_natCast]
  exact q
theorem forL_c {s : FG} {ds : List D} (h : m e = some (.lst ds, e1)) (q : loopF s f ds e1 = some o) : sForL m s f e = some o := by
  unfold sForL
  rw [h]
  exact q
theorem own_nx {i : Nat} {s : Sl} (h : m e = some (d, e1)) (hs : e1[i]? = some s) (hl : lentS s = false) : sOwn i m e = some (.nx (e1.set i (.ow true d))) := by
  unfold sOwn
  rw [h]
  simp only [hs, hl, Bool.false_eq_true, if_false]
end
end FL

namespace FL
open PySem PySem.Spec PyProof.Rows L2
set_option maxRecDepth 100000
set_option maxHeartbeats 4000000
set_option linter.all false
/-! ## how many are True, of two -/
def eqkB (k : Bool) (v : Value) : Bool := match v with
  | .bool b => b == k
  | _ => false
theorem eqkB_at {k : Bool} (A : Around) (s : Shared) : ∀ {us : List Value} {bs : List Bool}, Vals (bs.map V.bl) us → ∀ y ∈ us, SeqAt.EqAt A s y (.bool k) (eqkB k y)
  | us, [], r, y, hy => by
    rw [List.map_nil] at r
    cases r
    cases hy
  | us, b :: bs, r, y, hy => by
    rw [List.map_cons] at r
    cases r with
    | cons r1 r2 =>
      cases r1
      rcases List.mem_cons.mp hy with e | e
      · rw [e]; exact SeqAt.EqAt.bool_bool b k
      · exact eqkB_at A s r2 y e
theorem eqkB_count {k : Bool} : ∀ {us : List Value} {bs : List Bool}, Vals (bs.map V.bl) us → us.countP (eqkB k) = bs.count k
  | us, [], r => by
    rw [List.map_nil] at r
    cases r
    rfl
  | us, b :: bs, r => by
    rw [List.map_cons] at r
    cases r with
    | cons r1 r2 =>
      cases r1
      have ih := eqkB_count (k := k) r2
      rw [List.countP_cons, List.count_cons, ih] <;> rfl
def rCntB (K : PySem.W.Frag) : V → List V → Hp → VK → Prop := fun x xs H Q => ∃ (p : Addr) (bs : List Bool) (k : Bool), x = .ref p ∧ xs = [.bl k] ∧ SqL K H p (bs.map V.bl) ∧ Q (.int (bs.count k : Nat)) H
theorem mt_lcountB {X : Cx} : MtR X "list.count" (rCntB X.K) := by
  intro pins s σ H x xs v us Q I rx rxs h
  obtain ⟨p, bs, k, rfl, rfl, hs, q⟩ := h
  cases rx
  obtain ⟨u, rfl, ru⟩ := rxs.one
  cases ru
  obtain ⟨its, rv, ⟨⟨cls, dd, data, sl⟩, n, ho, hc, hdn, hd⟩, hlen⟩ := I.list hs
  simp only at hc hd
  subst hc hd
  refine call_meets PySem.F.slot_list_count ⟨_, ho, rfl⟩ PySem.F.entry_list_count (PySem.F.args_list_count_2 _ _)
    (SeqAt.list_countAt p its.toArray n dd sl (.bool k) (eqkB k)) ⟨ho, fun y hy => eqkB_at _ _ rv y (by simpa using hy), ?_⟩
  have ec : its.toArray.toList.countP (eqkB k) = bs.count k := eqkB_count rv
  refine ⟨.int (bs.count k : Nat), H, I.tok _, ⟨s.toks, ?_⟩, q⟩
  show Value.int ((its.toArray.toList.countP (eqkB k) : Nat) : Int) s.toks = Value.int ((bs.count k : Nat) : Int) s.toks
  rw [ec]
section
variable {X : Cx} {c : Ct} {o : Expr} {apos cpos p : Pos} {j : Nat} {fo : M D}
theorem f_countT (ho : FE X c o fo) (hbase : attributeBase o "count" X.env (eval o X.env) = eval o X.env := by rfl)
    (hfew : ((backTo cpos (starEach [Expr.Constant (.bool true) j p] X.env)).all (fun x => !x.1) && (backToKw cpos (keywordEach [] X.env)).all (fun x => x.1.isSome) && decide (([Expr.Constant (.bool true) j p] : List Expr).length + ([] : List Keyword).length + (if ([] : List Keyword).isEmpty then 0 else 1) < 30)) = true := by rfl)
    (hline : (apos.endLine == cpos.line) = true := by rfl) (hs : starEach [Expr.Constant (.bool true) j p] X.env = (false, eval (Expr.Constant (.bool true) j p) X.env) :: starEach [] X.env := by rfl) (hpl : (backTo cpos (starEach ([] : List Expr) X.env)).any (·.1) = false := by rfl) :
    FE X c (.Call (.Attribute o "count" apos) [.Constant (.bool true) j p] [] cpos) (m1 gCountT fo) :=
  (pe_bm PySem.F.plainAttrs_list PySem.F.slot_list_count PySem.F.type_list_count (mt_lcountB (X := X)) ho (pa_cons pe_bl pa_nil hs) hbase hfew hline hs hpl).weak fun σ H Q ⟨S, env, d, env', E, e1, kk⟩ => by
    unfold m1 at e1
    split at e1
    · cases e1
    · rename_i da ea qa
      split at e1
      · cases e1
      · rename_i z qz
        cases e1
        refine ⟨S, env, da, _, E, qa, fun S1 H1 v1 E1 s1 r1 => ?_⟩
        unfold gCountT at qz
        split at qz
        · rename_i a b
          cases qz
          cases r1 with
          | lst h rs =>
            cases rs with
            | cons r1 rs =>
              cases rs with
              | cons r2 rs =>
                cases rs
                cases r1; cases r2
                refine ⟨.inl ⟨rfl, _, .of (E1.sub _ _ h)⟩, ?_⟩
                refine ⟨_, [a, b], true, rfl, rfl, .of (E1.sub _ _ h), ?_⟩
                have e : (([a, b].count true : Nat) : Int) = (a.toNat + b.toNat : Int) := by cases a <;> cases b <;> rfl
                rw [e]
                exact kk S1 H1 _ E1 s1 (.int _)
        · cases qz
end
end FL

namespace FL
open PySem PySem.Spec PyProof.Rows L2
set_option maxRecDepth 100000
set_option maxHeartbeats 4000000
set_option linter.all false
/-! ## class methods -/
def cmA (K : PySem.W.Frag) (cn m : Str) : Addr := He5.wf K (He.ga K cn) "classmethod" m
def cmB (K : PySem.W.Frag) (cn m : Str) : Bool := PySem.W.readsIn K (He.ga K cn) (.type "type") && (He.eqO (PySem.W.specialIn K (.ref (He.ga K cn)) "__getattribute__") (some (some (.builtin "type.__getattribute__"))) && (He5.wrapB K (He.ga K cn) "classmethod" "classmethod.__get__" m && PySem.W.fnIn K (cmA K cn m)))
structure CmF (K : PySem.W.Frag) (cn m : Str) : Prop where
  rd : ClX.CRead K (He.ga K cn) (.type "type")
  me : ClX.CMet K (He.ga K cn) (.type "type") m (He.ma K (He.ga K cn) m) (cmA K cn m)
theorem cmB_ok {K : PySem.W.Frag} {cn m : Str} (h : cmB K cn m = true) : CmF K cn m := by
  obtain ⟨h1, h⟩ := and_both h
  obtain ⟨h2, h⟩ := and_both h
  obtain ⟨h3, h4⟩ := and_both h
  exact ⟨⟨h1, He.eqO_ok h2⟩, He5.cmet_of h3 h4⟩
abbrev AlY : Type := AlX × List He.FnW × Bool
/-- the text, the class register with it -/
def kY (g : Addr → Option Obj) (n : Nat) : PySem.W.Frag := He.frG g (cStatics :: He.asD g n)
def obsY (n : Nat) (fa : List He.Fa) (fn : List He.DefD) (gs : List Gt) (xs : PySem.W.Frag → Bool) (cs : List Gt) (g : Addr → Option Obj) : AlY :=
  ((He.obsD fa fn (kY g n), gs.map (fun q => fnA (kY g n) (pgA (kY g n) q.cn q.f)),
    sysD g && (gs.all (fun q => propB (kY g n) q.cn q.f && okA (kY g n) q.d (pgA (kY g n) q.cn q.f)) && xs (kY g n))), cs.map (fun q => fnA (kY g n) (cmA (kY g n) q.cn q.f)),
    cs.all (fun q => cmB (kY g n) q.cn q.f && okA (kY g n) q.d (cmA (kY g n) q.cn q.f)))
structure SaysY (fa : List He.Fa) (fn : List He.DefD) (gs : List Gt) (xs : PySem.W.Frag → Bool) (cs : List Gt) (K : PySem.W.Frag) : Prop extends SaysX fa fn gs xs K where
  c : cs.map (fun q => fnA K (cmA K q.cn q.f)) = cs.map (·.d.val)
  m : cs.all (fun q => cmB K q.cn q.f && okA K q.d (cmA K q.cn q.f)) = true
theorem SaysY.cmeth {fa : List He.Fa} {fn : List He.DefD} {gs : List Gt} {xs : PySem.W.Frag → Bool} {cs : List Gt} {K : PySem.W.Frag} (s : SaysY fa fn gs xs cs K) (i : Nat) {q : Gt} (h : cs[i]? = some q := by rfl) :
    CmF K q.cn q.f ∧ ∃ fd, FunD K q.d.name q.d.qual q.d.params q.d.body q.d.scope (q.d.dvs K) (q.d.kws K) (cmA K q.cn q.f) fd := by
  obtain ⟨a, b⟩ := and_both (List.all_eq_true.mp s.m q (List.mem_of_getElem? h))
  refine ⟨cmB_ok a, funA ?_ b⟩
  have e2 : (cs.map (fun q => fnA K (cmA K q.cn q.f)))[i]? = (cs.map (·.d.val))[i]? := by rw [s.c]
  rw [List.getElem?_map, List.getElem?_map, h] at e2
  exact Option.some.inj e2
def hookY (n : Nat) (fa : List He.Fa) (fn : List He.DefD) (gs : List Gt) (xs : PySem.W.Frag → Bool) (cs : List Gt) : PySem.W.Hook where
  α := AlY
  obs := fun s => obsY n fa fn gs xs cs s.heap.get?
  val := fun _ => ((He.valD fn, gs.map (·.d.val), true), cs.map (·.d.val), true)
  says := fun _ h => (∃ K : PySem.W.Frag, K.In h ∧ SaysY fa fn gs xs cs K) ∧ SysB h
  of := fun w s e => by
    have e1 := congrArg (fun z : AlY => z.1) e
    have e2 := congrArg (fun z : AlY => z.2.1) e
    have e3 := congrArg (fun z : AlY => z.2.2) e
    obtain ⟨b1, b2⟩ := and_both (congrArg (fun z : AlX => z.2.2) e1)
    obtain ⟨b3, b4⟩ := and_both b2
    exact ⟨⟨_, He.frG_in, ⟨congrArg (fun z : AlX => z.1) e1, congrArg (fun z : AlX => z.2.1) e1, b3, b4⟩, e2, e3⟩, sysD_ok b1⟩
  keeps := fun w h h' ⟨⟨K, a, c⟩, o, es, n', e, d⟩ k => ⟨⟨K, PySem.W.Frag.In.keeps a k, c⟩, o, es, n', k _ _ e, d⟩
theorem obsY_eq {n : Nat} {fa : List He.Fa} {fn : List He.DefD} {gs : List Gt} {xs : PySem.W.Frag → Bool} {cs : List Gt} {g : Addr → Option Obj} {s : Shared} (h : ∀ a, g a = s.heap.get? a) : obsY n fa fn gs xs cs g = (hookY n fa fn gs xs cs).obs s := by
  have e : g = s.heap.get? := funext h
  rw [e] <;> rfl
/-! the call of one, by the class's own name -/
def mCMeth (cn : Str) (φ : Fn) (fr : M (List D)) : M D := fun e => match fr e with
  | some (ds, e1) => (match φ (.sh (.kls cn) :: ds.map .sh) with
    | some (r, _) => some (r, e1)
    | none => none)
  | none => none
section
variable {X : Cx} {c : Ct} {e : Expr} {es : List Expr} {k i : Nat} {f : Addr} {φ : Fn} {cn m x y : Str} {p p2 pos apos sp_ : Pos} {fe : M D} {fr : M (List D)} {fd : FuncData} {ps : List Str}
theorem t_cmeth (σ : L2.St) (H : Hp) (Q : VK) (h : tM X.K c (mCMeth cn φ fr) σ H Q) : ClX.tCMeth (He.ga X.K cn) (fun vs H Q E => spF X.K φ (vs ++ []) H Q E) E0 (tC (.ref (He.ga X.K cn))) (tMs X.K c fr) σ H Q := by
  obtain ⟨S, env, d, env', E, e1, kk⟩ := h
  unfold mCMeth at e1
  split at e1
  · rename_i ds e2 qr
    split at e1
    · rename_i r e3 q2
      cases e1
      refine ⟨rfl, S, env, ds, _, E, qr, fun S2 H2 vs E2 s2 r2 => ?_⟩
      show spF X.K φ (V.ref _ :: (vs ++ [])) H2 Q E0
      rw [List.append_nil]
      refine ⟨_, S2, _, _, _, ER.args (ds := .kls cn :: ds) (vs := _ :: vs) E2.sub (.cons (.kls cn) r2), q2, fun S3 H3 v E3 s3 r3 => ?_⟩
      exact kk S3 H3 v (E2.grow E3.s0 E3.sub E3.dom (fun b o z => E3.kep b o z fun _ z => nomatch z) E3.frs) (s2.trans s3) r3
    · cases e1
  · cases e1
theorem f_cmeth {pl : Sem Bool} (cf : CmF X.K cn m) (F : FnOk X.prog X.w X.K X.mg X.base CX0 k (cmA X.K cn m) fd ps (spF X.K φ)) (room : Room k X.A) (hb : Binds X.K fd ps []) (hgT : Gl X y) (hmT : X.mg y = some (.ref (He.ga X.K cn))) (hr : FA X c (e :: es) fr)
    (hdb : (y == ("__debug__" : Str)) = false := by decide)
    (hst : starEach (e :: es) X.env = (false, eval e X.env) :: starEach es X.env := by rfl) (hpl : (backTo pos (starEach es X.env)).any (·.1) = false := by rfl)
    (ht : eval (.Call (.Attribute (.Name y p2) m apos) (e :: es) [] pos) X.env = (do
      let ov ← eval (.Name y p2) X.env
      standAt apos.atName
      let (f, first) ← holding [ov] (getMethod ov m pl)
      callWith pos f first (backTo pos (starEach (e :: es) X.env)) (backToKw pos (keywordEach [] X.env))) := by rfl) :
    FE X c (.Call (.Attribute (.Name y p2) m apos) (e :: es) [] pos) (mCMeth cn φ fr) :=
  (ClX.pe_cmeth (pe_glob (v := .ref (He.ga X.K cn)) hgT hmT rfl hdb) cf.rd cf.me (F.raw hb .nil) room pass0 hr hst hpl ht).weak t_cmeth
/-! cls(*e), cls a class in a variable -/
noncomputable def mMakeV (i : Nat) (cn : Str) (φ : Fn) (fa : M (List D)) : M D := fun e => match e[i]? with
  | some (.sh (.kls c)) => if c = cn then mMakeS cn φ fa e else none
  | _ => none
theorem pe_makeSv {CX : CXT} {C : Addr} {sp : Sp} {E : XK} {te : TE} (M : Mk X.K C f) (F : FnR X.prog X.w X.K X.mg X.base CX k f sp) (hr : Room (k + 1) X.A) (hi : PE X (.Name x p) (tVar i)) (hx : Passes CX X E) (he : PE X e te)
    (hst : starEach [.Starred e sp_] X.env = [(true, eval e X.env)] := by rfl) : PE X (.Call (.Name x p) [.Starred e sp_] [] pos) (fun σ H Q => σ[i]? = some (some (.ref C)) ∧ StX.tMakeR C sp E (StX.tStar X.K te tNil) σ H Q) := by
  refine ⟨fun pins s σ H Q I ⟨hv, h⟩ => ?_⟩
  refine wpAny_Call_Name_kw (thn (hi.run pins s σ H (fun v H1 => v = .ref C ∧ H1 = H) I ⟨_, hv, rfl, rfl⟩) fun v0 s0 ⟨y0, H0, I0, ry0, ey0, eH0⟩ => ?_)
  subst ey0 eH0
  obtain rfl : v0 = Value.ref C := ry0
  refine PySem.W.callWith_S (h₀ := X.base) I0.ok.mod.kin M.kp (thn (he.run pins s0 σ H0 _ I0 h) fun v s1 ⟨y, H1, I1, ry, a, xs, ey, hxs, q⟩ => ?_) hst
  subst ey
  obtain rfl : v = Value.ref a := ry
  refine StX.star_any I1 hxs fun us s2 I2 rv => ⟨I2.kIn, ?_⟩
  exact StX.run_makeR (us := us) (vs := xs ++ []) M F hr hx I2 (by rw [List.append_nil]; exact rv) q
theorem fo_makeSv (M : Mk X.K (He.ga X.K cn) f) (F : FnR X.prog X.w X.K X.mg X.base CX0 k f (spS X.K φ)) (room : Room (k + 1) X.A) (hi : PE X (.Name x p) (tVar i)) (he : FE X c e fe)
    (hst : starEach [.Starred e sp_] X.env = [(true, eval e X.env)] := by rfl) : FO X c (.Call (.Name x p) [.Starred e sp_] [] pos) (mMakeV i cn φ (mStar fe mNil)) :=
  (pe_makeSv M F room hi pass0 he hst).weak fun σ H Q ⟨S, env, d, env', E, e1, kk⟩ => by
    unfold mMakeV at e1
    split at e1
    · rename_i c' q1
      split at e1
      · rename_i hc
        subst hc
        obtain ⟨v, a, r⟩ := E.sh i _ q1
        cases r
        refine ⟨a, ?_⟩
        have h1 := t_makeS M σ H Q ⟨S, env, d, env', E, e1, kk⟩
        have h2 := t_star σ H _ h1
        obtain ⟨S, env, d, env', E, e1, kk⟩ := h2
        refine ⟨S, env, d, env', E, e1, fun S1 H1 v E1 s1 r1 => ?_⟩
        obtain ⟨p, xs, ev, hx, S2, env2, ds, env3, E2, q2, k2⟩ := kk S1 H1 v E1 s1 r1
        cases q2
        exact ⟨p, xs, ev, hx, k2 S2 H1 [] E2 (Same.refl _) .nil⟩
      · cases e1
    · cases e1
end
end FL

namespace FL
open PySem PySem.Spec PyProof.Rows L2
set_option maxRecDepth 100000
set_option maxHeartbeats 4000000
set_option linter.all false
/-! ## x, y = e, [..]: the second a new object -/
def sParO (i j : Nat) (f g : M D) : FS := fun e => match f e with
  | some (d1, e1) => (match g e1 with
    | some (d2, e2) => (match gSet i d1 e2 with
      | some e3 => (match e3[j]? with
        | some s => if lentS s = true then none else some (.nx (e3.set j (.ow true d2)))
        | none => none)
      | none => none)
    | none => none)
  | none => none
section
variable {X : Cx} {c : Ct} {a b : Expr} {pos px py pt pt2 : Pos} {kt k2}
theorem fs_parO {i j : Nat} {x y : Str} {f g : M D} (hc : X.calm = true) (hN : X.N.Nodup) (hi : X.N[i]? = some x) (hj : X.N[j]? = some y) (hij : i ≠ j) (hx : X.env.scope.names.lookup x = some .local) (hy : X.env.scope.names.lookup y = some .local) (ha : FE X c a f) (hb : FO X c b g)
    (hw : swappedStores [.Tuple [.Name x px, .Name y py] kt pt] (.Tuple [a, b] k2 pt2) X.env = pure (some [x, y])) (hs : swapsWithSole [.Tuple [.Name x px, .Name y py] kt pt] (.Tuple [a, b] k2 pt2) pos.line X.env = pure false := by rfl)
    (h1 : starEach [a, b] X.env = (false, eval a X.env) :: starEach [b] X.env := by rfl) (h2 : starEach [b] X.env = (false, eval b X.env) :: starEach [] X.env := by rfl) :
    FSt X c (.Assign [.Tuple [.Name x px, .Name y py] kt pt] (.Tuple [a, b] k2 pt2) pos) (sParO i j f g) := (ps_par hc hN hi hj hij hx hy (pa_cons ha (pa_cons hb pa_nil h2) h1) hw hs).weak fun D' σ H ⟨S, env, o, E, e1, k⟩ => by
  unfold sParO at e1
  split at e1
  · rename_i d1 ea qa
    split at e1
    · rename_i d2 eb qb
      split at e1
      · rename_i ec qc
        split at e1
        · rename_i s qs
          split at e1
          · cases e1
          · rename_i hl
            cases e1
            refine ⟨S, env, d1, ea, E, qa, fun S1 H1 v E1 s1 r1 => ⟨S1, ea, d2, eb, E1, qb, fun S2 H2 p E2 s2 o2 z2 n2 fr => ⟨v, .ref p, rfl, ?_⟩⟩⟩
            have E3 := gSet_ok E2 qc (r1.mono s2)
            have hec : ∃ s', ec = eb.set i (.sh d1) ∧ eb[i]? = some s' := by
              unfold gSet at qc
              split at qc
              · rename_i s' q'
                split at qc
                · cases qc
                · cases qc; exact ⟨s', rfl, q'⟩
              · cases qc
            obtain ⟨s', rfl, qi⟩ := hec
            refine k S2 H2 _ (E3.putOwn (fun e z => by rw [qs] at z; exact lentS_no hl (Option.some.inj z)) o2 z2 n2 fun j' f e _ q => ?_) (s1.trans s2)
            by_cases hj' : j' = i
            · subst hj'
              obtain ⟨hlt, _⟩ := List.getElem?_eq_some_iff.mp qi
              rw [List.getElem?_set_self hlt] at q
              cases q
            · rw [List.getElem?_set_ne (Ne.symm hj')] at q ⊢
              exact fr j' f e q
        · cases e1
      · cases e1
    · cases e1
  · cases e1
end
end FL

namespace FL
open PySem PySem.Spec PyProof.Rows L2
set_option maxRecDepth 100000
set_option maxHeartbeats 4000000
set_option linter.all false
/-! ## o.m(k = v), C.m(k = v) -/
def mMethK0 (cn m : Str) (φ : Fn) (g : List D → List D → List D) (fa : M D) (fk : M (List D)) : M D := fun e => match fa e with
  | some (.obj c fs, e1) => if c = cn ∧ fs.lookup m = none then (match fk e1 with
    | some (zs, e2) => (match φ ((g [.obj c fs] zs).map .sh) with
      | some (r, _) => some (r, e2)
      | none => none)
    | none => none) else none
  | _ => none
def mCMethK0 (cn : Str) (φ : Fn) (g : List D → List D → List D) (fk : M (List D)) : M D := fun e => match fk e with
  | some (zs, e1) => (match φ ((g [.kls cn] zs).map .sh) with
    | some (r, _) => some (r, e1)
    | none => none)
  | none => none
section
variable {X : Cx} {c : Ct} {o : Expr} {k : Nat} {f : Addr} {φ : Fn} {cn m y : Str} {p2 pos apos : Pos} {fa : M D} {fk : M (List D)} {fd : FuncData} {ps ks : List Str} {g : Perm} {kws : List Keyword}
theorem run_kw {pins : List (Addr × Obj)} {σ : L2.St} {H : Hp} {s : Shared} {Q : VK} {us ws : List Value} {vs zs : List V} {sp : Sp} (F : FnOk X.prog X.w X.K X.mg X.base CX0 k f fd ps sp) (hr : Room k X.A) (hb : KBinds X.K fd ps ks (g Value) (g V))
    (I : Inv X pins σ H s) (r : Vals vs us) (rz : Vals zs ws) (h : sp (g V vs zs) H Q E0) : codeAny (model X.prog X.w) X.A (.call (.ref f) ⟨us, ks.zip ws⟩) (CR CX0 X.stack X.prog X.w H s Q E0) s := by
  have r2 := hb.rel r rz
  have hl : (g Value us ws).length = ps.length := by rw [← r2.length]; exact F.len _ _ _ _ h
  exact F.run X.A X.stack s H ⟨us, ks.zip ws⟩ (g Value us ws) (g V vs zs) Q E0 hr I.env0 (hb.to s us ws I.kIn hl) r2 h
theorem f_methK0 {pl : Sem Bool} (ha : FE X c o fa) (cl : Cls X.K (He.ga X.K cn)) (hm : Meth X.K (He.ga X.K cn) m f) (F : FnOk X.prog X.w X.K X.mg X.base CX0 k f fd ps (spF X.K φ)) (room : Room k X.A) (kb : KBinds X.K fd ps ks (g Value) (g V))
    (hg : ∀ {S : Hp} {ds zs : List D} {vs us : List V}, RelDs X.K S ds vs → RelDs X.K S zs us → RelDs X.K S (g D ds zs) (g V vs us)) (hk : PK X kws (tMs X.K c fk)) (n0 : (backToKw pos (keywordEach kws X.env)).all (·.1.isSome) = true := by rfl)
    (nk : (backToKw pos (keywordEach kws X.env)).filterMap (·.1) = ks := by rfl) (n3 : ((backTo pos (starEach [] X.env)).any (·.1) || (backToKw pos (keywordEach kws X.env)).any (·.1.isNone)) = false := by rfl)
    (ht : eval (.Call (.Attribute o m apos) [] kws pos) X.env = (do
      let ov ← eval o X.env
      standAt apos.atName
      let (f, first) ← holding [ov] (getMethod ov m pl)
      callWith pos f first (backTo pos (starEach [] X.env)) (backToKw pos (keywordEach kws X.env))) := by rfl) :
    FE X c (.Call (.Attribute o m apos) [] kws pos) (mMethK0 cn m φ (g D) fa fk) := by
  constructor
  rintro pins s σ H Q I ⟨S, env, d, env', E, e1, kk⟩
  unfold mMethK0 at e1
  split at e1
  · rename_i c1 fs ea qa
    split at e1
    · rename_i hc
      obtain ⟨rfl, hl⟩ := hc
      split at e1
      · rename_i zs0 e2 qr
        split at e1
        · rename_i r e3 q2
          cases e1
          refine PySem.W.methodCall_KW (pl := pl) (thn (ha.run pins s σ H (fun x H1 => ∃ a dx vs, x = .ref a ∧ H1 a = some (.ins (He.ga X.K c1) dx vs) ∧ vs.lookup m = none ∧ tMs X.K c fk σ H1 fun zs H2 => spF X.K φ (g V [.ref a] zs) H2 Q E0) I ⟨S, env, _, ea, E, qa, fun S1 H1 v1 E1 s1 r1 => ?_⟩) fun u s1 ⟨x, H1, I1, rx, a, dx, vs, ex, hx, hn, q⟩ => ?_) ht
          · have r1' := r1
            cases r1 with
            | obj h1 rf =>
              refine ⟨_, _, _, rfl, E1.sub _ _ h1, RelFs.lookup_none rf hl, S1, ea, zs0, _, E1, qr, fun S2 H2 zs E2 s2 r2 => ?_⟩
              refine ⟨_, S2, _, _, _, ER.args (ds := g D [.obj c1 fs] zs0) (vs := g V [_] zs) E2.sub (hg (.cons (r1'.mono s2) .nil) r2), q2, fun S3 H3 v E3 s3 r3 => ?_⟩
              exact kk S3 H3 v (E2.grow E3.s0 E3.sub E3.dom (fun b o z => E3.kep b o z fun _ z => nomatch z) E3.frs) ((s1.trans s2).trans s3) r3
          · subst ex
            obtain rfl : u = Value.ref a := rx
            refine getmeth_ok I1 hx cl hm hn ?_
            refine PySem.W.callWith_KW0 (first := [.ref a]) (h₀ := X.base) I.ok.mod.kin hm.kp n0 (thn (hk.run pos pins s1 σ H1 _ I1 q) fun ws s2 ⟨zs, H2, I2, rz, q2⟩ => ⟨I2.kIn, ?_⟩) n3
            rw [nk]
            apply wpAny_call
            apply codeAny_mono (run_kw (us := [.ref a]) (vs := [.ref a]) F room kb I2 (.cons rfl .nil) rz q2)
            intro r' s' q'
            have z := cr_in pass0 I2 q'
            cases r' with
            | ok x => cases x <;> exact z
            | error x => exact z
        · cases e1
      · cases e1
    · cases e1
  · cases e1
theorem f_cmethK0 {pl : Sem Bool} (cf : CmF X.K cn m) (F : FnOk X.prog X.w X.K X.mg X.base CX0 k (cmA X.K cn m) fd ps (spF X.K φ)) (room : Room k X.A) (kb : KBinds X.K fd ps ks (g Value) (g V))
    (hg : ∀ {S : Hp} {ds zs : List D} {vs us : List V}, RelDs X.K S ds vs → RelDs X.K S zs us → RelDs X.K S (g D ds zs) (g V vs us)) (hgT : Gl X y) (hmT : X.mg y = some (.ref (He.ga X.K cn))) (hk : PK X kws (tMs X.K c fk))
    (hdb : (y == ("__debug__" : Str)) = false := by decide) (n0 : (backToKw pos (keywordEach kws X.env)).all (·.1.isSome) = true := by rfl)
    (nk : (backToKw pos (keywordEach kws X.env)).filterMap (·.1) = ks := by rfl) (n3 : ((backTo pos (starEach [] X.env)).any (·.1) || (backToKw pos (keywordEach kws X.env)).any (·.1.isNone)) = false := by rfl)
    (ht : eval (.Call (.Attribute (.Name y p2) m apos) [] kws pos) X.env = (do
      let ov ← eval (.Name y p2) X.env
      standAt apos.atName
      let (f, first) ← holding [ov] (getMethod ov m pl)
      callWith pos f first (backTo pos (starEach [] X.env)) (backToKw pos (keywordEach kws X.env))) := by rfl) :
    FE X c (.Call (.Attribute (.Name y p2) m apos) [] kws pos) (mCMethK0 cn φ (g D) fk) := by
  constructor
  rintro pins s σ H Q I ⟨S, env, d, env', E, e1, kk⟩
  unfold mCMethK0 at e1
  split at e1
  · rename_i zs0 e2 qr
    split at e1
    · rename_i r e3 q2
      cases e1
      refine PySem.W.methodCall_KW (pl := pl) (thn ((pe_glob (v := .ref (He.ga X.K cn)) hgT hmT rfl hdb).run pins s σ H (fun x H1 => x = .ref (He.ga X.K cn) ∧ H1 = H) I ⟨rfl, rfl⟩) fun u s1 ⟨x, H1, I1, rx, ex, eH⟩ => ?_) ht
      subst ex eH
      obtain rfl : u = Value.ref (He.ga X.K cn) := rx
      refine ClX.getmethcm_ok I1 cf.rd cf.me fun s2 I2 => ?_
      have h : tMs X.K c fk σ H1 fun zs H2 => spF X.K φ (g V [.ref (He.ga X.K cn)] zs) H2 Q E0 := by
        refine ⟨S, env, zs0, _, E, qr, fun S2 H2 zs E2 s2 r2 => ?_⟩
        refine ⟨_, S2, _, _, _, ER.args (ds := g D [.kls cn] zs0) (vs := g V [_] zs) E2.sub (hg (.cons (.kls cn) .nil) r2), q2, fun S3 H3 v E3 s3 r3 => ?_⟩
        exact kk S3 H3 v (E2.grow E3.s0 E3.sub E3.dom (fun b o z => E3.kep b o z fun _ z => nomatch z) E3.frs) (s2.trans s3) r3
      refine PySem.W.callWith_of (P := PySem.W.MethP X.K s1.heap.objs.size (cmA X.K cn m) (.ref (He.ga X.K cn))) n3 (PySem.W.keeps_M cf.me.fi) (PyProof.Rows.evalArgs_kw2_nil n0 (thn (hk.run pos _ s2 σ H1 _ I2 h) fun ws s3 ⟨zs, H2, I3, rz, q3⟩ => ⟨⟨ClX.pin_at I3, I3.kIn⟩, ?_⟩))
      rw [nk]
      apply wpAny_call
      refine PySem.W.method_call (ClX.pin_at I3) ?_
      have z := run_kw (us := [.ref (He.ga X.K cn)]) (vs := [.ref (He.ga X.K cn)]) F room kb I3 (.cons rfl .nil) rz q3
      refine codeAny_mono z ?_
      intro r' s' q'
      have z := cr_in pass0 I3 q'
      cases r' with
      | ok x => cases x <;> first | exact z | (obtain ⟨v, H', J, r, w⟩ := z; exact ⟨v, H', ClX.unpin J, r, w⟩) | exact False.elim z
      | error x => exact z
    · cases e1
  · cases e1
end
end FL

namespace FL
open PySem PySem.Spec PyProof.Rows L2
set_option maxRecDepth 100000
set_option maxHeartbeats 4000000
set_option linter.all false
/-! ## tokens only grow -/
theorem runs_toks {M : Model} {Γ : PySem.Ctx} {p : Pos} {t : Sem Fin} {fs : List Frame} {s s' : Shared} {e : End} (h : Runs M Γ p t fs s e s') : s.toks ≤ s'.toks := by
  induction h <;> (try simp only [Shared.setGen] at *) <;> omega
theorem wp_toks {α : Type} {M : Model} {Γ : PySem.Ctx} {n : Nat} (t : Sem α) : ∀ {Q : α → Pos → Shared → Prop} {E : Value → Pos → Shared → Prop} {p : Pos} {s : Shared}, n ≤ s.toks → Sem.wp M Γ t Q E p s →
    Sem.wp M Γ t (fun a p' s' => Q a p' s' ∧ n ≤ s'.toks) (fun x p' s' => E x p' s' ∧ n ≤ s'.toks) p s := by
  induction t with
  | pure a => intro Q E p s hn h; rw [Sem.wp] at h ⊢; exact ⟨h, hn⟩
  | raise x => intro Q E p s hn h; rw [Sem.wp] at h ⊢; exact ⟨h, hn⟩
  | unsupported w => intro Q E p s hn h; rw [Sem.wp] at h; exact h.elim
  | finish w => intro Q E p s hn h; rw [Sem.wp] at h; exact h.elim
  | rule tag k ih => intro Q E p s hn h; rw [Sem.wp] at h ⊢; exact ih () hn h
  | «at» p' k ih => intro Q E p s hn h; rw [Sem.wp] at h ⊢; exact ih () hn h
  | load a part k ih => intro Q E p s hn h; rw [Sem.wp] at h ⊢; obtain ⟨o, h1, h2⟩ := h; exact ⟨o, h1, ih o hn h2⟩
  | update a part f k ih => intro Q E p s hn h; rw [Sem.wp] at h ⊢; exact ⟨h.1, ih () hn h.2⟩
  | loadIfAlive a k ih => intro Q E p s hn h; rw [Sem.wp] at h ⊢; exact ih _ hn h
  | point l k ih => intro Q E p s hn h; rw [Sem.wp] at h ⊢; exact ih () hn h
  | register a k ih => intro Q E p s hn h; rw [Sem.wp] at h; exact h.elim
  | alloc o k ih => intro Q E p s hn h; rw [Sem.wp] at h ⊢; exact ih _ hn h
  | fresh k ih => intro Q E p s hn h; rw [Sem.wp] at h ⊢; exact ih _ (Nat.le_succ_of_le hn) h
  | ask k ih => intro Q E p s hn h; rw [Sem.wp] at h ⊢; exact ih _ hn h
  | choose src m k ih => intro Q E p s hn h; rw [Sem.wp] at h ⊢; exact ⟨h.1, ih _ hn h.2⟩
  | os q l k ih => intro Q E p s hn h; rw [Sem.wp] at h ⊢; exact ih _ hn h
  | call c hh g l k ih =>
    intro Q E p s hn h
    rw [Sem.wp] at h ⊢
    obtain ⟨r, s', h1, h2⟩ := h
    exact ⟨r, s', h1, ih r (Nat.le_trans hn (runs_toks h1)) h2⟩
  | handled own k ih => intro Q E p s hn h; rw [Sem.wp] at h ⊢; exact ih _ hn h
  | genState g k ih => intro Q E p s hn h; rw [Sem.wp] at h ⊢; obtain ⟨st, h1, h2⟩ := h; exact ⟨st, h1, ih _ hn h2⟩
  | newGen c k ih => intro Q E p s hn h; rw [Sem.wp] at h ⊢; exact ih _ hn h
  | resume g r l k ih =>
    intro Q E p s hn h
    rw [Sem.wp] at h ⊢
    obtain ⟨res, s', h1, h2⟩ := h
    have hm : s.toks ≤ s'.toks := by
      unfold Wakes at h1
      split at h1
      · exact h1.elim
      · split at h1
        · obtain ⟨e1, s1, a, _, _, b⟩ := h1; have := runs_toks a; subst b; simp only [Shared.setGen] at *; omega
        · obtain ⟨_, b⟩ := h1; subst b; omega
        · obtain ⟨_, b⟩ := h1; subst b; simp only [Shared.setGen]; omega
      · obtain ⟨e1, s1, a, _, _, b⟩ := h1; have := runs_toks a; subst b; simp only [Shared.setGen] at *; omega
      · obtain ⟨_, b⟩ := h1; subst b; omega
      · obtain ⟨_, b⟩ := h1; subst b; omega
    exact ⟨res, s', h1, ih _ (Nat.le_trans hn hm) h2⟩
  | yield v g l k ih => intro Q E p s hn h; rw [Sem.wp] at h; exact h.elim
  | stack k ih => intro Q E p s hn h; rw [Sem.wp] at h ⊢; exact ih _ hn h
  | fork c k ih => intro Q E p s hn h; rw [Sem.wp] at h; exact h.elim
  | thread k ih => intro Q E p s hn h; rw [Sem.wp] at h ⊢; exact ih _ hn h
  | await a f d l k ih => intro Q E p s hn h; rw [Sem.wp] at h; exact h.elim
theorem any_toks {α : Type} {M : Model} {A : Around} {t : Sem α} {Q : α → Shared → Prop} {E : Value → Shared → Prop} {s : Shared} {n : Nat} (hn : n ≤ s.toks) (h : wpAny M A t Q E s) :
    wpAny M A t (fun a s' => Q a s' ∧ n ≤ s'.toks) (fun x s' => E x s' ∧ n ≤ s'.toks) s := fun Γ p hΓ => wp_toks t hn (h Γ p hΓ)
end FL

namespace FL
open PySem PySem.Spec PyProof.Rows L2
set_option maxRecDepth 100000
set_option maxHeartbeats 4000000
set_option linter.all false
/-! ## xs[n] = e, xs one's own list -/
def gPut (i n : Nat) : FG := fun d e => match e[i]? with
  | some (.ow f (.lst ds)) => if n < ds.length then some (e.set i (.ow f (.lst (ds.set n d)))) else none
  | _ => none
section
variable {X : Cx} {c : Ct} {x : Str} {px pk pos : Pos} {i n : Nat} {m : Int} {jj : Nat}
theorem fg_put (hi : PE X (.Name x px) (tVar i)) (hm : m = (n : Int)) (ha : ∀ v, assign (.Subscript (.Name x px) (.Constant (.int m) jj pk) pos) X.env v = (do
      let ov ← holding [v] (eval (.Name x px) X.env)
      let iv ← holding [v, ov] (eval (.Constant (.int m) jj pk) X.env)
      standAt pos
      holding [v, ov, iv] (setItem ov iv v)
      release [v, ov, iv] []) := by intros; rfl) : FGt X c (.Subscript (.Name x px) (.Constant (.int m) jj pk) pos) (gPut i n) :=
  (pg_sub hi pe_int set_list ha).weak fun v σ H Q ⟨S, env, d, e', E, r, h1, k⟩ => by
    unfold gPut at h1
    split at h1
    · rename_i f ds q
      split at h1
      · rename_i hl
        cases h1
        obtain ⟨p, a, ⟨vs, hp, rs⟩, z, w⟩ := E.ow i f _ q
        refine ⟨_, a, p, vs, m, n, rfl, rfl, hp, ?_, ?_⟩
        · subst hm
          unfold ixN
          rw [if_pos (by omega), if_pos (by rw [← rs.length]; omega), Int.toNat_natCast]
        · exact k σ S _ (E.chg q a (fun b hb => upd_ne hb) ⟨_, upd_same, RelDs.set r n rs⟩) (Same.refl _)
      · cases h1
    · cases h1
end
end FL

namespace FL
open PySem PySem.Spec PyProof.Rows L2
set_option maxRecDepth 100000
set_option maxHeartbeats 4000000
set_option linter.all false
/-! ## xs.pop(e), xs one's own list -/
def mPopAt (i : Nat) (fi : M D) : M D := fun e => match e[i]? with
  | some (.ow _ (.lst _)) => (match fi e with
    | some (.int n, e1) => (match e1[i]? with
      | some (.ow f (.lst ds)) => if 0 ≤ n ∧ n < 1000000 then (match ds[n.toNat]? with
        | some d => some (d, e1.set i (.ow f (.lst (ds.eraseIdx n.toNat))))
        | none => none) else none
      | _ => none)
    | _ => none)
  | _ => none
theorem RelDs.erase {K : PySem.W.Frag} {S : Hp} {ds : List D} {vs : List V} (r : RelDs K S ds vs) (k : Nat) : RelDs K S (ds.eraseIdx k) (vs.eraseIdx k) := by
  rw [List.eraseIdx_eq_take_drop_succ, List.eraseIdx_eq_take_drop_succ]
  exact (r.take _).append (r.drop _)
section
variable {X : Cx} {c : Ct} {a : Expr} {x : Str} {px apos cpos : Pos} {i : Nat} {fi : M D}
theorem f_popAt (hi : PE X (.Name x px) (tVar i)) (ha : FE X c a fi) (hbase : attributeBase (.Name x px) "pop" X.env (eval (.Name x px) X.env) = eval (.Name x px) X.env := by rfl)
    (hfew : ((backTo cpos (starEach [a] X.env)).all (fun x => !x.1) && (backToKw cpos (keywordEach [] X.env)).all (fun x => x.1.isSome) && decide (([a] : List Expr).length + ([] : List Keyword).length + (if ([] : List Keyword).isEmpty then 0 else 1) < 30)) = true := by rfl)
    (hline : (apos.endLine == cpos.line) = true := by rfl) (hs : starEach [a] X.env = (false, eval a X.env) :: starEach [] X.env := by rfl) (hpl : (backTo cpos (starEach ([] : List Expr) X.env)).any (·.1) = false := by rfl) :
    FE X c (.Call (.Attribute (.Name x px) "pop" apos) [a] [] cpos) (mPopAt i fi) :=
  (pe_bm PySem.F.plainAttrs_list PySem.F.slot_list_pop PySem.F.type_list_pop (mt_popAt (X := X)) hi (pa_cons ha pa_nil hs) hbase hfew hline hs hpl).weak fun σ H Q ⟨S, env, d, env', E, e1, k⟩ => by
    unfold mPopAt at e1
    split at e1
    · rename_i f0 ds0 q0
      split at e1
      · rename_i n e2 q
        split at e1
        · rename_i f ds q2
          split at e1
          · rename_i hn
            split at e1
            · rename_i d' qd
              cases e1
              obtain ⟨p, a, ⟨vs0, hp0, _⟩, _, _⟩ := E.ow i f0 _ q0
              refine ⟨_, a, .inl ⟨rfl, vs0, .of hp0⟩, S, env, _, e2, E, q, fun S1 H1 v1 E1 s1 r1 => ?_⟩
              cases r1
              obtain ⟨p', a', ⟨vs, hp, rs⟩, z, w⟩ := E1.ow i f _ q2
              rw [a] at a'; cases a'
              obtain ⟨v, hv, rv⟩ := rs.get qd
              have hlt : n.toNat < vs.length := (List.getElem?_eq_some_iff.mp hv).1
              refine ⟨p, vs, n, n.toNat, v, rfl, rfl, hp, by omega, by omega, ?_, hv, ?_⟩
              · unfold seqIndex?
                have h0 : ¬ n < 0 := by omega
                have h1 : (decide (0 ≤ n) && decide (n < (vs.length : Int))) = true := by
                  rw [Bool.and_eq_true, decide_eq_true_eq, decide_eq_true_eq]
                  omega
                simp only [if_neg h0, h1, if_true]
              · exact k S1 _ v (E1.chg q2 a (fun b hb => upd_ne hb) ⟨_, upd_same, rs.erase _⟩) s1 rv
            · cases e1
          · cases e1
        · cases e1
      · cases e1
    · cases e1
end
end FL

namespace FL
open PySem PySem.Spec PyProof.Rows L2
set_option maxRecDepth 100000
set_option maxHeartbeats 4000000
set_option linter.all false
/-! ## d.get(k, x); d[k] = v with a computed key -/
def mDGet2 (fa : M Hd) (fk fz : M D) : M D := fun e => match fa e with
  | some (h, e1) => (match deref e1 h with
    | some (.dic _) => (match fk e1 with
      | some (dk, e2) => (match fz e2 with
        | some (dz, e3) => (match deref e3 h with
          | some (.dic kvs) => (match keyD dk with
            | some k => some ((getK kvs k).getD dz, e3)
            | none => none)
          | _ => none)
        | none => none)
      | none => none)
    | _ => none)
  | none => none
theorem getK_none {K : PySem.W.Frag} {S : Hp} {k : Key} : ∀ {ds : List (Key × D)} {vs : List (Key × V)}, RelKs K S ds vs → getK ds k = none → valV vs k = none
  | _, _, .nil, _ => rfl
  | _, _, .cons (k := k') (d := d') (ds := ds) (v := v') (vs := vs) r rs, h => by
    by_cases e : k' = k
    · have h' : getK ((k', d') :: ds) k = some d' := by simp [getK, e]
      rw [h'] at h; cases h
    · rw [valV_neg e]
      have h' : getK ((k', d') :: ds) k = getK ds k := by simp [getK, e]
      rw [h'] at h
      exact getK_none rs h
section
variable {X : Cx} {c : Ct} {o ek ez : Expr} {apos cpos : Pos} {fa : M Hd} {fk fz : M D} {n : Nat}
theorem f_dget2 (room : Room n X.A) (ha : FH X c o fa) (hk : FE X c ek fk) (hz : FE X c ez fz) (hm : M2 X o "get" apos ek ez cpos := by exact ⟨rfl, rfl, rfl, rfl⟩) : FE X c (.Call (.Attribute o "get" apos) [ek, ez] [] cpos) (mDGet2 fa fk fz) :=
  (pe_dget2 (hu_of room) ha hk hz hm).weak fun σ H Q ⟨S, env, d, env', E, e1, kk⟩ => by
    unfold mDGet2 at e1
    split at e1
    · rename_i h ea qa
      split at e1
      · rename_i kvs0 q0
        split at e1
        · rename_i dk eb qb
          split at e1
          · rename_i dz ec qc
            split at e1
            · rename_i kvs q3
              split at e1
              · rename_i k qk
                cases e1
                refine ⟨S, env, h, ea, E, qa, fun S1 H1 v1 E1 s1 r1 => ?_⟩
                obtain ⟨a, vs0, rfl, h0, _⟩ := (view E1 r1 q0).dic E1.sub
                refine ⟨a, rfl, .inl ⟨vs0, .of h0⟩, S1, ea, dk, eb, E1, qb, fun S2 H2 v2 E2 s2 r2 => ⟨S2, eb, dz, _, E2, qc, fun S3 H3 v3 E3 s3 r3 => ?_⟩⟩
                obtain ⟨a', vs, e', h3, rk⟩ := (view E3 (r1.mono (s2.trans s3)) q3).dic E3.sub
                cases e'
                have hkey := key_vw qk (.inl (r2.mono s3) : Vw X.K S3 H3 dk v2)
                subst hkey
                refine ⟨valV vs k, DGet.k h3, ?_⟩
                cases hg : getK kvs k with
                | none =>
                  rw [getK_none rk hg]
                  rw [hg] at kk
                  exact kk S3 H3 _ E3 ((s1.trans s2).trans s3) r3
                | some dv =>
                  obtain ⟨v, hv, rv⟩ := getK_rel rk hg
                  rw [hv]
                  rw [hg] at kk
                  exact kk S3 H3 _ E3 ((s1.trans s2).trans s3) rv
              · cases e1
            · cases e1
          · cases e1
        · cases e1
      · cases e1
    · cases e1
end
/-- d[k] = v, d one's own -/
def sDPutX (i : Nat) (fk fv : M D) : FS := fun e => match fv e with
  | some (d, e1) => (match e1[i]? with
    | some (.ow _ (.dic _)) => (match fk e1 with
      | some (dk, e2) => (match e2[i]? with
        | some (.ow f (.dic kvs)) => (match keyD dk with
          | some k => if kvs.length < 1000 then some (.nx (e2.set i (.ow f (.dic (putKD kvs k d))))) else none
          | none => none)
        | _ => none)
      | none => none)
    | _ => none)
  | none => none
section
variable {X : Cx} {c : Ct} {ek value : Expr} {pos pos' px : Pos} {x : Str} {i n : Nat} {fk fv : M D}
theorem fs_dputX (room : Room n X.A) (hi : PE X (.Name x px) (tVar i)) (hk : FE X c ek fk) (hv : FE X c value fv) (hs : swapsWith value (some (.Subscript (.Name x px) ek pos')) pos.line X.env = pure false := by rfl) :
    FSt X c (.Assign [.Subscript (.Name x px) ek pos'] value pos) (sDPutX i fk fv) := (ps_dput (hu_of room) hi hk hv hs).weak fun D' σ H ⟨S, env, o, E, e1, k⟩ => by
  unfold sDPutX at e1
  split at e1
  · rename_i d e2 q
    split at e1
    · rename_i f0 kvs0 q0
      split at e1
      · rename_i dk e3 qk
        split at e1
        · rename_i f kvs q2
          split at e1
          · rename_i key qy
            split at e1
            · rename_i hl
              cases e1
              refine ⟨S, env, d, e2, E, q, fun S1 H1 v E1 s1 r1 => ?_⟩
              obtain ⟨p0, a0, _, _, _⟩ := E1.ow i f0 _ q0
              refine ⟨_, a0, S1, e2, dk, e3, E1, qk, fun S2 H2 w E2 s2 r2 => ?_⟩
              obtain ⟨p, a, ⟨vs, hp, rk⟩, z, ww⟩ := E2.ow i f _ q2
              rw [a0] at a; cases a
              have hkey := key_vw qy (.inl r2 : Vw X.K S2 H2 dk w)
              subst hkey
              refine ⟨p0, _, rfl, DPut.k hp (by rw [← rk.length]; exact small1000 (by omega)), ?_⟩
              exact k S2 _ σ (E2.chg q2 a0 (fun b hb => upd_ne hb) ⟨_, upd_same, rk.put (r1.mono s2)⟩) (s1.trans s2)
            · cases e1
          · cases e1
        · cases e1
      · cases e1
    · cases e1
  · cases e1
end
end FL

namespace FL
open PySem PySem.Spec PyProof.Rows L2
set_option maxRecDepth 100000
set_option maxHeartbeats 4000000
set_option linter.all false
/-! ## is True, is False: of bools -/
theorem op_isBB {X : Cx} : OpR X (compareOp .Is) (fun x y H Q => ∃ a b, x = .bl a ∧ y = .bl b ∧ Q (.bl (decide (a = b))) H) := by
  intro pins s σ H x y v u Q I rx ry h
  obtain ⟨a, b, rfl, rfl, q⟩ := h
  cases rx; cases ry
  show wpAny _ _ ((isSame (Value.bool a) (Value.bool b)) >>= fun z => pure (Value.bool z)) _ _ s
  cases a <;> cases b <;> exact wpAny_bind (wpAny_pure (wpAny_pure (fin_bl I q rfl)))
theorem op_notBB {X : Cx} : OpR X (compareOp .IsNot) (fun x y H Q => ∃ a b, x = .bl a ∧ y = .bl b ∧ Q (.bl (!decide (a = b))) H) := by
  intro pins s σ H x y v u Q I rx ry h
  obtain ⟨a, b, rfl, rfl, q⟩ := h
  cases rx; cases ry
  show wpAny _ _ ((isSame (Value.bool a) (Value.bool b)) >>= fun z => pure (Value.bool (!z))) _ _ s
  cases a <;> cases b <;> exact wpAny_bind (wpAny_pure (wpAny_pure (fin_bl I q rfl)))
def gIsB (n b : Bool) : D → Option D
  | .bl a => some (.bl (n != decide (a = b)))
  | _ => none
section
variable {X : Cx} {c : Ct} {a : Expr} {pos pos' : Pos} {fa : M D} {j : Nat} {b : Bool}
theorem t_isB {n : Bool} (σ : L2.St) (H : Hp) (Q : VK) (h : tM X.K c (m1 (gIsB n b) fa) σ H Q) : tOp (fun x y H Q => ∃ a b, x = .bl a ∧ y = .bl b ∧ Q (.bl (n != decide (a = b))) H) (tM X.K c fa) (tC (.bl b)) σ H Q := by
  obtain ⟨S, env, d, env', E, e1, k⟩ := h
  unfold m1 at e1
  split at e1
  · cases e1
  · rename_i da ea qa
    split at e1
    · cases e1
    · rename_i z qz
      cases e1
      refine ⟨S, env, da, _, E, qa, fun S1 H1 v1 E1 s1 r1 => ?_⟩
      unfold gIsB at qz
      split at qz
      · rename_i a0
        cases qz
        cases r1
        exact ⟨a0, b, rfl, rfl, k S1 H1 _ E1 s1 (.bl _)⟩
      · cases qz
theorem f_isB (ha : FE X c a fa) (hm : behindInMarks .Is (.Constant (.bool b) j pos') = false := by rfl) : FE X c (.Compare a [.Is] [.Constant (.bool b) j pos'] pos) (m1 (gIsB false b) fa) :=
  (pe_cmpR op_isBB ha pe_bl hm).weak fun σ H Q h => by
    have := t_isB σ H Q h
    simpa using this
theorem f_notB (ha : FE X c a fa) (hm : behindInMarks .IsNot (.Constant (.bool b) j pos') = false := by rfl) : FE X c (.Compare a [.IsNot] [.Constant (.bool b) j pos'] pos) (m1 (gIsB true b) fa) :=
  (pe_cmpR op_notBB ha pe_bl hm).weak fun σ H Q h => by
    have := t_isB σ H Q h
    simpa using this
end
end FL

namespace FL
open PySem PySem.Spec PyProof.Rows L2
set_option maxRecDepth 100000
set_option maxHeartbeats 4000000
set_option linter.all false
/-! ## int(b) of a bool -/
def gIntB : List D → Option D
  | [.bl b] => some (.int (if b then 1 else 0))
  | _ => none
theorem call_int_b {X : Cx} : CallR X (.type "int") (fun xs H Q => ∃ b, xs = [.bl b] ∧ Q (.int (if b then 1 else 0)) H) := by
  intro pins s σ H xs us Q I r h
  obtain ⟨b, rfl, q⟩ := h
  obtain ⟨u, rfl, ru⟩ := r.one
  cases ru
  exact call_int_bool ⟨.int (if b then 1 else 0), H, I.tok _, ⟨_, rfl⟩, q⟩
theorem on_intB {K : PySem.W.Frag} : OpN K (fun xs H Q => ∃ b, xs = [.bl b] ∧ Q (.int (if b then 1 else 0)) H) gIntB := by
  intro S H ds z xs Q q r hs kv ka
  unfold gIntB at q
  split at q
  · rename_i b
    cases q
    cases r with
    | cons r1 r2 =>
      cases r1; cases r2
      exact ⟨b, rfl, kv _ (.int _)⟩
  · cases q
theorem f_intB {X : Cx} {c : Ct} {a : Expr} {p pos : Pos} {f : M (List D)} (ha : FA X c [a] f) (hg : Gl X "int") (hm : X.mg "int" = none) (he : starEach [a] X.env = (false, eval a X.env) :: starEach [] X.env := by rfl) (hpl : (backTo pos (starEach ([] : List Expr) X.env)).any (·.1) = false := by rfl) :
    FE X c (.Call (.Name "int" p) [a] [] pos) (mMk gIntB f) := f_bty call_int_b on_intB ha hg hm (by decide +kernel) (by decide) (by decide) he hpl
/-! ## x, y = [..], []: two new objects, the second an empty list -/
def sParOO (i j : Nat) (f : M D) : FS := fun e => match f e with
  | some (d1, e1) => (match e1[i]?, e1[j]? with
    | some s, some t => if lentS s = true ∨ lentS t = true ∨ i = j then none else some (.nx ((e1.set i (.ow true d1)).set j (.ow true (.lst []))))
    | _, _ => none)
  | none => none
section
variable {X : Cx} {c : Ct} {a : Expr} {pos px py pt pt2 pl : Pos} {kt k2 kl}
theorem fs_parOO {i j : Nat} {x y : Str} {f : M D} (hc : X.calm = true) (hN : X.N.Nodup) (hi : X.N[i]? = some x) (hj : X.N[j]? = some y) (hij : i ≠ j) (hx : X.env.scope.names.lookup x = some .local) (hy : X.env.scope.names.lookup y = some .local) (ha : FO X c a f)
    (hw : swappedStores [.Tuple [.Name x px, .Name y py] kt pt] (.Tuple [a, .List [] pl] k2 pt2) X.env = pure (some [x, y])) (hs : swapsWithSole [.Tuple [.Name x px, .Name y py] kt pt] (.Tuple [a, .List [] pl] k2 pt2) pos.line X.env = pure false := by rfl)
    (h1 : starEach [a, .List [] pl] X.env = (false, eval a X.env) :: starEach [.List [] pl] X.env := by rfl) (h2 : starEach [.List [] pl] X.env = (false, eval (.List [] pl) X.env) :: starEach [] X.env := by rfl) :
    FSt X c (.Assign [.Tuple [.Name x px, .Name y py] kt pt] (.Tuple [a, .List [] pl] k2 pt2) pos) (sParOO i j f) := (ps_par hc hN hi hj hij hx hy (pa_cons ha (pa_cons (pe_lst pa_nil) pa_nil h2) h1) hw hs).weak fun D' σ H ⟨S, env, o, E, e1, k⟩ => by
  unfold sParOO at e1
  split at e1
  · rename_i d1 ea qa
    split at e1
    · rename_i s t qs qt
      split at e1
      · cases e1
      · rename_i hl
        cases e1
        simp only [not_or] at hl
        obtain ⟨l1, l2, _⟩ := hl
        refine ⟨S, env, d1, ea, E, qa, fun S1 H1 p E1 s1 o1 z1 n1 fr => ?_⟩
        refine ⟨by show (0 : Nat) ≤ sizeLine; exact Nat.zero_le _, fun q hq => ⟨.ref p, .ref q, rfl, ?_⟩⟩
        have hpq : p ≠ q := fun z => by subst z; exact o1.there hq
        have E2 := E1.grow (Same.refl _) (S' := S1) (H' := upd H1 q (.lst [])) (fun b u z => (same_of hq (Same.refl _) : Same H1 (upd H1 q (.lst []))) b u (E1.sub b u z)) (fun x hx => by
          by_cases e : x = q
          · subst e; rw [upd_same]; exact fun z => nomatch z
          · rw [upd_ne e]; exact hx) (same_of hq (Same.refl _)) (fun x h => .inl h)
        have o2 : OwnAt X.K S1 (upd H1 q (.lst [])) d1 p := o1.mono (Same.refl _) (upd_ne hpq)
        have E3 := E2.putOwn (i := i) (fun e z => by rw [qs] at z; exact lentS_no l1 (Option.some.inj z)) o2 z1 n1 fun j f e _ q => fr j f e q
        have hS1q : S1 q = none := E1.sub.free hq
        have hH0 : c.H0 q = none := by
          cases e : c.H0 q with
          | none => rfl
          | some o => exact absurd hq (E1.dom q (by rw [e]; exact fun z => nomatch z))
        have hji : j ≠ i := Ne.symm hij
        have ow2 : OwnAt X.K S1 (upd H1 q (.lst [])) (.lst []) q := ⟨[], upd_same, .nil⟩
        refine k S1 _ _ (E3.putOwn (i := j) (fun e z => ?_) ow2 hS1q hH0 fun j' f e hj' q' => ?_) s1
        · rw [List.getElem?_set_ne hij, qt] at z
          exact lentS_no l2 (Option.some.inj z)
        · by_cases hj : j' = i
          · subst hj
            have hlen : j' < σ.length := by
              have := E1.len
              obtain ⟨hlt, _⟩ := List.getElem?_eq_some_iff.mp qs
              omega
            rw [List.getElem?_set_self hlen]
            intro z
            cases z
            exact hpq rfl
          · rw [List.getElem?_set_ne (Ne.symm hj)] at q' ⊢
            obtain ⟨p', a', o', _, _⟩ := E1.ow j' f e q'
            rw [a']
            intro z
            cases z
            exact o'.there hq
    · cases e1
  · cases e1
end
/-- list(e): a new list -/
theorem fo_list {X : Cx} {c : Ct} {a : Expr} {p pos : Pos} {f : M (List D)} (ha : FA X c [a] f) (hg : Gl X "list") (hm : X.mg "list" = none) (he : starEach [a] X.env = (false, eval a X.env) :: starEach [] X.env := by rfl) (hpl : (backTo pos (starEach ([] : List Expr) X.env)).any (·.1) = false := by rfl) :
    FO X c (.Call (.Name "list" p) [a] [] pos) (mMk gList f) := (pe_callTy call_list_of hg hm (by decide +kernel) ha (by decide) (by decide) he hpl).weak fun σ H Q ⟨S, env, d, env', E, e1, kk⟩ => by
  unfold mMk at e1
  split at e1
  · cases e1
  · rename_i da ea qa
    split at e1
    · cases e1
    · rename_i z qz
      cases e1
      have fin : ∀ (S1 H1 : Hp) (q : Addr) (vs : List V) (ds : List D), Er X.K c S1 H1 σ env' → Same S S1 → RelDs X.K S1 ds vs → d = .lst ds → H1 q = none → Q (.ref q) (upd H1 q (.lst vs)) := fun S1 H1 q vs ds E1 s1 rs ed hq => by
        subst ed
        refine kk S1 _ q (E1.lay _ hq) s1 ⟨vs, upd_same, rs⟩ (E1.sub.free hq) ?_ fun j f e q2 z => ?_
        · cases ez : c.H0 q with
          | none => rfl
          | some o => exact absurd hq (E1.dom q (by rw [ez]; exact fun z => nomatch z))
        · obtain ⟨p1, a1, o1, _⟩ := E1.ow j f e q2
          rw [a1] at z; cases z
          exact o1.there hq
      refine ⟨S, env, da, _, E, qa, fun S1 H1 vs E1 s1 r1 => ?_⟩
      unfold gList at qz
      split at qz
      · cases qz
        cases r1 with
        | cons r1 rs =>
          cases rs
          cases r1 with
          | lst h r => exact ⟨_, _, rfl, .inl (.of (E1.sub _ _ h)), fun q hq => fin S1 H1 q _ _ E1 s1 r rfl hq⟩
      · cases qz
        cases r1 with
        | cons r1 rs =>
          cases rs
          cases r1 with
          | tup h r => exact ⟨_, _, rfl, .inr (h.same E1.sub).sq, fun q hq => fin S1 H1 q _ _ E1 s1 r rfl hq⟩
      · cases qz
end FL

set_option Elab.async false
set_option linter.all false
set_option maxRecDepth 100000
set_option maxHeartbeats 2000000
/-! ## itertools.accumulate over a list, at the library's level -/
namespace Acc
open PySem PySem.Spec PySem.Builtin.Itertools
open Sem (wp)
abbrev aT : String := "itertools.accumulate"
abbrev aN : String := "itertools.accumulate.__new__"
abbrev aX : String := "itertools.accumulate.__next__"
abbrev aI : String := "itertools.accumulate.__iter__"
theorem mro_a : mroOf (.type aT) = pure [.type aT, .type "object"] := by
  rw [mroOf_type]; kernel_rfl
theorem sub_a : isSubtype (.type aT) (.type aT) = pure true := by
  rw [isSubtype_type]; kernel_rfl
theorem new_a : typeLookup (.type aT) "__new__" = pure (some (.builtin aN)) := by
  rw [typeLookup_type, builtinLookup_eq_fast]; kernel_rfl
theorem init_a : Slot aT "__init__" "object.__init__" :=
  .of (owner := "object") (n := "__init__") (by
      rw [typeLookup_type, builtinLookup_eq_fast]; kernel_rfl) (by decide +kernel) (by decide +kernel) (by decide +kernel)
    (by first
        | exact .inl (by decide +kernel)
        | exact .inr (by decide +kernel)) (by
      rw [isSubtype_type]; kernel_rfl)
theorem called_a : TypeCalled aT aN "object.__init__" :=
  ⟨by decide +kernel, by decide +kernel, ⟨_, _, mro_a⟩, madeBy_type mro_a new_a (by decide +kernel), by decide +kernel, sub_a, init_a⟩
theorem tc1 (a : Value) : checkTypeCall aT ⟨[a], []⟩ = pure () := by kernel_rfl
theorem tc2 (a b : Value) : checkTypeCall aT ⟨[a, b], []⟩ = pure () := by kernel_rfl
theorem nc1 (a : Value) : checkBuiltinCall aN ⟨[.type aT, a], []⟩ = pure () := by kernel_rfl
theorem nc2 (a b : Value) : checkBuiltinCall aN ⟨[.type aT, a, b], []⟩ = pure () := by kernel_rfl
theorem entry_new : entryFor table aN = some Builtin.«itertools.accumulate.__new__» := entryFor_of_tree (by kernel_rfl)
theorem slot_iter : Slot aT "__iter__" aI :=
  .of (owner := aT) (n := "__iter__") (by
      rw [typeLookup_type, builtinLookup_eq_fast]; kernel_rfl) (by decide +kernel) (by decide +kernel) (by decide +kernel)
    (by first
        | exact .inl (by decide +kernel)
        | exact .inr (by decide +kernel)) sub_a
theorem slot_next : Slot aT "__next__" aX :=
  .of (owner := aT) (n := "__next__") (by
      rw [typeLookup_type, builtinLookup_eq_fast]; kernel_rfl) (by decide +kernel) (by decide +kernel) (by decide +kernel)
    (by first
        | exact .inl (by decide +kernel)
        | exact .inr (by decide +kernel)) sub_a
theorem entry_iter : entryFor table aI = some Builtin.«dict_keyiterator.__iter__» :=
  entryFor_alias (id' := "dict_keyiterator.__iter__") (by kernel_rfl) (by
    first
    | rfl
    | decide +kernel
    | (unfold String.splitOn; simp +decide [String.splitOnAux])) (by decide +kernel) (by kernel_rfl)
theorem entry_next : entryFor table aX = some Builtin.«itertools.accumulate.__next__» := entryFor_of_tree (by kernel_rfl)
theorem owner_a : Manifest.owners.lookup (String.ofList ['e','t','a','l','u','m','u','c','c','a','.','s','l','o','o','t','r','e','t','i'].reverse) = some Manifest.sig_itertools_accumulate := by kernel_rfl
theorem args_iter (a : Value) : argsOk aI ⟨[a], []⟩ := by
  unfold argsOk
  rw [signature?_of (id := aI) (n := ['_','_','r','e','t','i','_','_']) (o := ['e','t','a','l','u','m','u','c','c','a','.','s','l','o','o','t','r','e','t','i']) (by kernel_rfl) owner_a]
  kernel_rfl
theorem args_next (a : Value) : argsOk aX ⟨[a], []⟩ := by
  unfold argsOk
  rw [signature?_of (id := aX) (n := ['_','_','t','x','e','n','_','_']) (o := ['e','t','a','l','u','m','u','c','c','a','.','s','l','o','o','t','r','e','t','i']) (by kernel_rfl) owner_a]
  kernel_rfl
theorem noDict : typeHasDict (.type aT) = false := by decide +kernel
theorem noLen : typeLookup (.type aT) "__len__" = pure none := by
  rw [typeLookup_type, builtinLookup_eq_fast]; kernel_rfl
theorem noHint : typeLookup (.type aT) "__length_hint__" = pure none := by
  rw [typeLookup_type, builtinLookup_eq_fast]; kernel_rfl

/-- an accumulate object: its source, its function, what it has so far -/
abbrev IsA (h : Heap) (a it : Addr) (f tot : Value) : Prop := h.get? a = some { cls := .type aT, dict := none, data := .fields #[.ref it, f, tot, .none], slots := #[] }

section
variable {prog : Program} {w : World} {A : Around} {E : Value → Shared → Prop} {s : Shared}
/-- the next item of a list's iterator, raw -/
theorem raw_item {it l : Addr} {i : Nat} {items : Array Value} {x : Value} {Q : Value → Shared → Prop} (hit : s.heap.IsListIter it l i) (hl : s.heap.IsList l items) (hx : items[i]? = some x)
    (hQ : ∀ h', h'.IsListIter it l (i + 1) → Heap.SameBut it s.heap h' → Q x { s with heap := h' }) : wpAny (model prog w) A (itRawNext (.ref it)) Q E s := by
  obtain ⟨ob, gb, cb, db⟩ := id hit
  obtain ⟨ol, gl, _, nl, dl⟩ := hl
  unfold itRawNext
  refine wpAny_bind (wpAny_callSpecial?_slot (name := Str.ofString "__next__") hit.typeIs slot_listiter_next (wpAny_call_entry slot_listiter_next hit.typeIs entry_listiter_next ?_ (args_listiter_next _)))
  show wpAny _ _ (field (.ref it) 0 >>= _) _ _ s
  refine wpAny_bind (wpAny_field gb db (x := .ref l) rfl ?_)
  show wpAny _ _ (if (Value.ref l == Value.none) = true then _ else _) _ _ s
  rw [if_neg (show ¬ ((Value.ref l == Value.none) = true) from Bool.false_ne_true)]
  show wpAny _ _ (field (.ref it) 1 >>= _) _ _ s
  refine wpAny_bind (wpAny_field gb db (x := .int i 0) rfl ?_)
  show wpAny _ _ (seqItems? (.ref l) >>= _) _ _ s
  refine wpAny_bind (wpAny_seqItems gl dl ?_)
  simp only [Int.toNat_natCast, hx]
  refine wpAny_bind (wpAny_setField gb db (by simp) (wpAny_pure ⟨x, rfl, wpAny_pure (hQ _ ?_ (Heap.SameBut.update ..))⟩))
  exact ⟨_, Heap.get?_update_self _ gb (Obj.isFreed_of_fields (Obj.data_mapFields db _)), (Obj.cls_mapFields ..).trans cb, by
    rw [Obj.data_mapFields db]
    simp [rawInt]⟩
end
end Acc

set_option Elab.async false
set_option linter.all false
set_option maxRecDepth 100000
set_option maxHeartbeats 2000000
namespace Acc
open PySem PySem.Spec PySem.Builtin.Itertools
open Sem (wp)
theorem short_eq : ("itertools." ++ "accumulate" : String) = aT := by decide
theorem cls_rest (xs : List Value) : itClassAndRest "accumulate" ⟨.type aT :: xs, []⟩ = pure (.type aT, xs) := by
  unfold itClassAndRest
  simp only [isType, short_eq, sub_a, pure_bind, Bool.not_true, Bool.false_eq_true, if_false]
theorem bind1 (x : Value) : itBindNamed "accumulate" ["iterable", "func", "initial"] 1 2 [x] [] = pure [some x, none, none] := by
  first
  | rfl
  | kernel_rfl
theorem bind2 (x f : Value) : itBindNamed "accumulate" ["iterable", "func", "initial"] 1 2 [x, f] [] = pure [some x, some f, none] := by
  first
  | rfl
  | kernel_rfl
section
variable {prog : Program} {w : World} {A : Around} {E : Value → Shared → Prop} {s : Shared}
theorem new_1 (x : Value) : MeetsIn prog w (Builtin.«itertools.accumulate.__new__» ⟨[.type aT, x], []⟩)
    (fun A R s => wpAny (model prog w) A.in1 (pyIter x) (fun itv s1 => R (.ok (.ret (.ref s1.heap.objs.size))) { s1 with heap := s1.heap.push { cls := .type aT, data := .fields #[itv, .none, itNothing, .none] } }) (fun e s1 => R (.error e) s1) s) :=
  .of_wp fun A R s h => by
    unfold Builtin.«itertools.accumulate.__new__»
    refine wpAny_bind (wpAny_of_eq (cls_rest [x]) ?_)
    try dsimp only
    refine wpAny_bind (wpAny_of_eq (bind1 x) ?_)
    try dsimp only
    refine wpAny_bind (wpAny_mono h (fun itv s1 hR => ?_) fun _ _ z => z)
    unfold itNewRecord
    simp only [noDict, Bool.not_false, if_true]
    refine wpAny_bind (wpAny_newObj_type ?_)
    exact wpAny_pure ⟨_, rfl, hR⟩
theorem new_2 (x f : Value) : MeetsIn prog w (Builtin.«itertools.accumulate.__new__» ⟨[.type aT, x, f], []⟩)
    (fun A R s => wpAny (model prog w) A.in1 (pyIter x) (fun itv s1 => R (.ok (.ret (.ref s1.heap.objs.size))) { s1 with heap := s1.heap.push { cls := .type aT, data := .fields #[itv, f, itNothing, .none] } }) (fun e s1 => R (.error e) s1) s) :=
  .of_wp fun A R s h => by
    unfold Builtin.«itertools.accumulate.__new__»
    refine wpAny_bind (wpAny_of_eq (cls_rest [x, f]) ?_)
    try dsimp only
    refine wpAny_bind (wpAny_of_eq (bind2 x f) ?_)
    try dsimp only
    refine wpAny_bind (wpAny_mono h (fun itv s1 hR => ?_) fun _ _ z => z)
    unfold itNewRecord
    simp only [noDict, Bool.not_false, if_true]
    refine wpAny_bind (wpAny_newObj_type ?_)
    exact wpAny_pure ⟨_, rfl, hR⟩
/-- what a call makes: the list's iterator, then the object -/
theorem call_1 {l : Addr} {items : Array Value} {Q : Value → Shared → Prop} (hl : s.heap.IsList l items)
    (h : ∀ h', h'.IsListIter s.heap.objs.size l 0 → IsA h' (s.heap.objs.size + 1) s.heap.objs.size .none (rawInt 0) → h'.objs.size = s.heap.objs.size + 2 → (∀ b o, s.heap.get? b = some o → h'.get? b = some o) → Q (.ref (s.heap.objs.size + 1)) { s with heap := h' }) :
    wpAny (model prog w) A (call (.type aT) [.ref l]) Q E s := by
  refine callType_newIn called_a (by decide +kernel) (tc1 _) (nc1 _) (fun obj => F.args_object_init_2 obj _) entry_new (new_1 _) ?_
  refine wpAny_pyIter_list hl ?_
  have z1 : (s.heap.push { cls := .type "list_iterator", data := .fields #[.ref l, .int 0 0] }).objs.size = s.heap.objs.size + 1 := Heap.size_push ..
  have ga := Heap.get?_push_size (s.heap.push { cls := .type "list_iterator", data := .fields #[.ref l, .int 0 0] }) (o := { cls := .type aT, data := .fields #[.ref s.heap.objs.size, .none, itNothing, .none] }) rfl
  show _ ∧ _
  refine ⟨⟨_, ga, rfl⟩, ?_⟩
  simp only [z1] at ga ⊢
  exact h _ ⟨_, Heap.get?_push_of_some _ (Heap.get?_push_size _ rfl), rfl, rfl⟩ ga (by rw [Heap.size_push, z1]) fun b o e => Heap.get?_push_of_some _ (Heap.get?_push_of_some _ e)
theorem call_2 {l : Addr} {f : Value} {items : Array Value} {Q : Value → Shared → Prop} (hl : s.heap.IsList l items)
    (h : ∀ h', h'.IsListIter s.heap.objs.size l 0 → IsA h' (s.heap.objs.size + 1) s.heap.objs.size f (rawInt 0) → h'.objs.size = s.heap.objs.size + 2 → (∀ b o, s.heap.get? b = some o → h'.get? b = some o) → Q (.ref (s.heap.objs.size + 1)) { s with heap := h' }) :
    wpAny (model prog w) A (call (.type aT) [.ref l, f]) Q E s := by
  refine callType_newIn called_a (by decide +kernel) (tc2 _ _) (nc2 _ _) (fun obj => F.args_object_init_3 obj _ _) entry_new (new_2 _ _) ?_
  refine wpAny_pyIter_list hl ?_
  have z1 : (s.heap.push { cls := .type "list_iterator", data := .fields #[.ref l, .int 0 0] }).objs.size = s.heap.objs.size + 1 := Heap.size_push ..
  have ga := Heap.get?_push_size (s.heap.push { cls := .type "list_iterator", data := .fields #[.ref l, .int 0 0] }) (o := { cls := .type aT, data := .fields #[.ref s.heap.objs.size, f, itNothing, .none] }) rfl
  show _ ∧ _
  refine ⟨⟨_, ga, rfl⟩, ?_⟩
  simp only [z1] at ga ⊢
  exact h _ ⟨_, Heap.get?_push_of_some _ (Heap.get?_push_size _ rfl), rfl, rfl⟩ ga (by rw [Heap.size_push, z1]) fun b o e => Heap.get?_push_of_some _ (Heap.get?_push_of_some _ e)
theorem iter_self {a it : Addr} {f tot : Value} {Q : Value → Shared → Prop} (ha : IsA s.heap a it f tot) (h : Q (.ref a) s) : wpAny (model prog w) A (pyIter (.ref a)) Q E s := by
  have hT : s.TypeIs (.ref a) aT := ⟨_, ha, rfl⟩
  refine wpAny_pyIter_slot hT slot_iter (wpAny_call_entry slot_iter hT entry_iter ?_ (args_iter _))
  show wpAny _ _ (ret (.ref a)) _ _ s
  exact wpAny_pure ⟨_, rfl, aT, _, hT, slot_next.lookup, h⟩

/-- what `setField a 2 v` leaves -/
theorem set_tot {a it : Addr} {f tot v : Value} {Q : Unit → Shared → Prop} (ha : IsA s.heap a it f tot) (h : ∀ h', IsA h' a it f v → Heap.SameBut a s.heap h' → Q () { s with heap := h' }) :
    wpAny (model prog w) A (setField (.ref a) 2 v) Q E s :=
  wpAny_setField_rec ha (by simp) fun h' q sb => h h' q sb
end
end Acc

set_option Elab.async false
set_option linter.all false
set_option maxRecDepth 100000
set_option maxHeartbeats 2000000
namespace Acc
open PySem PySem.Spec PySem.Builtin.Itertools
open Sem (wp)
section
variable {prog : Program} {w : World} {A : Around} {E : Value → Shared → Prop} {s : Shared} {a it l : Addr} {i : Nat} {items : Array Value} {x : Value} {Q : Value → Shared → Prop}
/-- the first step: nothing yet, the item itself -/
theorem next_first {f : Value} (ne : a ≠ it) (ha : IsA s.heap a it f (rawInt 0)) (hit : s.heap.IsListIter it l i) (hl : s.heap.IsList l items) (hx : items[i]? = some x)
    (h : ∀ h', IsA h' a it f x → h'.IsListIter it l (i + 1) → (h'.objs.size = s.heap.objs.size) → (∀ b, b ≠ a → b ≠ it → h'.get? b = s.heap.get? b) → Q x { s with heap := h' }) :
    wpAny (model prog w) A (Builtin.«itertools.accumulate.__next__» ⟨[.ref a], []⟩) (fun fin s' => ∃ v, fin = .done (.ret v) ∧ Q v s') E s := by
  show wpAny _ _ (field (.ref a) 3 >>= _) _ _ s
  refine wpAny_bind (wpAny_field ha rfl (x := .none) rfl ?_)
  rw [if_neg (show ¬ (Value.none != Value.none) = true by decide)]
  refine wpAny_bind (wpAny_field ha rfl (x := .ref it) rfl ?_)
  refine wpAny_bind (raw_item hit hl hx fun h1 hit1 sb1 => ?_)
  have ha1 : IsA h1 a it f (rawInt 0) := (sb1.2 a ne).trans ha
  refine wpAny_bind (wpAny_field ha1 rfl (x := rawInt 0) rfl ?_)
  rw [if_pos (show (rawInt 0 == itNothing) = true by decide)]
  refine wpAny_bind (wpAny_rule (wpAny_bind (set_tot ha1 fun h2 ha2 sb2 => ?_)))
  refine wpAny_pure ⟨x, rfl, h h2 ha2 (hit1.at fun o q => (sb2.2 it (Ne.symm ne)).trans q) (by rw [sb2.1, sb1.1]) fun b ba bi => (sb2.2 b ba).trans (sb1.2 b bi)⟩
/-- a later step with +: the sum -/
theorem next_add {t y : Int} {k j : Tok} (ne : a ≠ it) (ha : IsA s.heap a it .none (.int t k)) (hk : (Value.int t k == itNothing) = false) (hit : s.heap.IsListIter it l i) (hl : s.heap.IsList l items) (hx : items[i]? = some (.int y j))
    (h : ∀ h' tk, IsA h' a it .none (.int (t + y) s.toks) → h'.IsListIter it l (i + 1) → (h'.objs.size = s.heap.objs.size) → (∀ b, b ≠ a → b ≠ it → h'.get? b = s.heap.get? b) → Q (.int (t + y) s.toks) { s with heap := h', toks := tk }) :
    wpAny (model prog w) A (Builtin.«itertools.accumulate.__next__» ⟨[.ref a], []⟩) (fun fin s' => ∃ v, fin = .done (.ret v) ∧ Q v s') E s := by
  show wpAny _ _ (field (.ref a) 3 >>= _) _ _ s
  refine wpAny_bind (wpAny_field ha rfl (x := .none) rfl ?_)
  rw [if_neg (show ¬ (Value.none != Value.none) = true by decide)]
  refine wpAny_bind (wpAny_field ha rfl (x := .ref it) rfl ?_)
  refine wpAny_bind (raw_item hit hl hx fun h1 hit1 sb1 => ?_)
  have ha1 : IsA h1 a it .none (.int t k) := (sb1.2 a ne).trans ha
  refine wpAny_bind (wpAny_field ha1 rfl (x := .int t k) rfl ?_)
  rw [if_neg (by rw [hk]; exact Bool.false_ne_true)]
  refine wpAny_bind (wpAny_field ha1 rfl (x := .none) rfl ?_)
  refine wpAny_bind (wpAny_holding ?_)
  rw [if_pos (show (Value.none == Value.none) = true by decide)]
  refine PySem.AutoIntOps.add_0 ?_
  refine wpAny_bind (set_tot (s := { s with heap := h1, toks := s.toks + 1 }) ha1 fun h2 ha2 sb2 => ?_)
  refine wpAny_bind (wpAny_letGo (wpAny_pure ⟨_, rfl, ?_⟩))
  exact h h2 _ ha2 (hit1.at fun o q => (sb2.2 it (Ne.symm ne)).trans q) (by rw [sb2.1]; exact sb1.1) fun b ba bi => (sb2.2 b ba).trans (sb1.2 b bi)
/-- a later step with min: the lesser one -/
theorem next_min {t y : Int} {k j : Tok} (hh : A.handled = none) (ne : a ≠ it) (ha : IsA s.heap a it (.builtin "min") (.int t k)) (hk : (Value.int t k == itNothing) = false) (hit : s.heap.IsListIter it l i) (hl : s.heap.IsList l items) (hx : items[i]? = some (.int y j))
    (h : ∀ h' tk, IsA h' a it (.builtin "min") (if y < t then .int y j else .int t k) → h'.IsListIter it l (i + 1) → (∀ b o, b ≠ a → b ≠ it → s.heap.get? b = some o → h'.get? b = some o) → Q (if y < t then .int y j else .int t k) { s with heap := h', toks := tk }) :
    wpAny (model prog w) A (Builtin.«itertools.accumulate.__next__» ⟨[.ref a], []⟩) (fun fin s' => ∃ v, fin = .done (.ret v) ∧ Q v s') E s := by
  show wpAny _ _ (field (.ref a) 3 >>= _) _ _ s
  refine wpAny_bind (wpAny_field ha rfl (x := .none) rfl ?_)
  rw [if_neg (show ¬ (Value.none != Value.none) = true by decide)]
  refine wpAny_bind (wpAny_field ha rfl (x := .ref it) rfl ?_)
  refine wpAny_bind (raw_item hit hl hx fun h1 hit1 sb1 => ?_)
  have ha1 : IsA h1 a it (.builtin "min") (.int t k) := (sb1.2 a ne).trans ha
  refine wpAny_bind (wpAny_field ha1 rfl (x := .int t k) rfl ?_)
  rw [if_neg (by rw [hk]; exact Bool.false_ne_true)]
  refine wpAny_bind (wpAny_field ha1 rfl (x := .builtin "min") rfl ?_)
  refine wpAny_bind (wpAny_holding ?_)
  rw [if_neg (show ¬ (Value.builtin "min" == Value.none) = true from fun z => nomatch (eq_of_beq z))]
  refine min_two_ints (s := { s with heap := h1 }) hh fun h2 tk kp2 => ?_
  have ha2 := kp2 _ _ ha1
  refine wpAny_bind (set_tot (s := { s with heap := h2, toks := tk }) ha2 fun h3 ha3 sb3 => ?_)
  refine wpAny_bind (wpAny_letGo (wpAny_pure ⟨_, rfl, ?_⟩))
  exact h h3 _ ha3 (hit1.at fun o q => (sb3.2 it (Ne.symm ne)).trans (kp2 _ _ q)) fun b o ba bi q => (sb3.2 b ba).trans (kp2 b o ((sb1.2 b bi).trans q))
end
end Acc

set_option Elab.async false
set_option linter.all false
set_option maxRecDepth 100000
set_option maxHeartbeats 2000000
namespace Acc
open PySem PySem.Spec PySem.Builtin.Itertools
open Sem (wp)
section
variable {prog : Program} {w : World} {A : Around} {E : Value → Shared → Prop} {s : Shared} {a it l : Addr} {i : Nat} {items : Array Value} {x : Value} {Q : Value → Shared → Prop}
/-- the list is at its end -/
theorem raw_end {Q : Value → Shared → Prop} (hh : A.handled = none) (hit : s.heap.IsListIter it l i) (hl : s.heap.IsList l items) (hx : items[i]? = none)
    (hE : ∀ h' e, Heap.ExtBut it s.heap h' → (∃ o, h'.get? e = some o ∧ o.cls = .type "StopIteration") → E (.ref e) { s with heap := h' }) : wpAny (model prog w) A (itRawNext (.ref it)) Q E s := by
  obtain ⟨ob, gb, cb, db⟩ := id hit
  obtain ⟨ol, gl, _, nl, dl⟩ := hl
  unfold itRawNext
  refine wpAny_bind (wpAny_callSpecial?_slot (name := Str.ofString "__next__") hit.typeIs slot_listiter_next (wpAny_call_entry slot_listiter_next hit.typeIs entry_listiter_next ?_ (args_listiter_next _)))
  show wpAny _ _ (field (.ref it) 0 >>= _) _ _ s
  refine wpAny_bind (wpAny_field gb db (x := .ref l) rfl ?_)
  show wpAny _ _ (if (Value.ref l == Value.none) = true then _ else _) _ _ s
  rw [if_neg (show ¬ ((Value.ref l == Value.none) = true) from Bool.false_ne_true)]
  show wpAny _ _ (field (.ref it) 1 >>= _) _ _ s
  refine wpAny_bind (wpAny_field gb db (x := .int i 0) rfl ?_)
  show wpAny _ _ (seqItems? (.ref l) >>= _) _ _ s
  refine wpAny_bind (wpAny_seqItems gl dl ?_)
  simp only [Int.toNat_natCast, hx]
  refine wpAny_bind (wpAny_rule (wpAny_bind (wpAny_setField gb db (by simp) ?_)))
  show wpAny _ _ (newExc (.type "StopIteration") [] >>= _) _ _ _
  refine wpAny_bind ?_
  simp only [newExc, newTuple]
  refine wpAny_bind (wpAny_newObj_type ?_ (by size_fits))
  refine wpAny_bind (m := firstArgMember _ _) (wpAny_of_eq (a := Value.none) (by
    first
    | rfl
    | (simp only [firstArgMember]; rfl)) ?_)
  refine wpAny_newObj_type ?_ (by size_fits)
  simp only [raiseNew]
  refine wpAny_bind (wpAny_handled ?_)
  first
  | rw [show A.in1.handled = none from hh]
  | rw [hh]
  refine wpAny_bind (wpAny_pure (wpAny_throw ?_))
  exact hE _ _ (((Heap.SameBut.update ..).extBut.push _).push _) ⟨_, Heap.get?_push_size _ rfl, rfl⟩
theorem next_end {f tot : Value} {Q : Fin → Shared → Prop} (hh : A.handled = none) (ha : IsA s.heap a it f tot) (hit : s.heap.IsListIter it l i) (hl : s.heap.IsList l items) (hx : items[i]? = none)
    (hE : ∀ h' e, Heap.ExtBut it s.heap h' → (∃ o, h'.get? e = some o ∧ o.cls = .type "StopIteration") → E (.ref e) { s with heap := h' }) :
    wpAny (model prog w) A (Builtin.«itertools.accumulate.__next__» ⟨[.ref a], []⟩) Q E s := by
  show wpAny _ _ (field (.ref a) 3 >>= _) _ _ s
  refine wpAny_bind (wpAny_field ha rfl (x := .none) rfl ?_)
  rw [if_neg (show ¬ (Value.none != Value.none) = true by decide)]
  refine wpAny_bind (wpAny_field ha rfl (x := .ref it) rfl ?_)
  exact wpAny_bind (raw_end hh hit hl hx hE)

/-! ### what the sums and the least ones are -/
/-- the running sums -/
def sums (z : Int) : List Int → List Int
  | [] => []
  | y :: r => (z + y) :: sums (z + y) r
/-- the running least ones -/
def mins : List Int → List Int
  | [] => []
  | y :: r => y :: minsFrom y r
where minsFrom (z : Int) : List Int → List Int
  | [] => []
  | y :: r => (if y < z then y else z) :: minsFrom (if y < z then y else z) r
end
end Acc

set_option Elab.async false
set_option linter.all false
set_option maxRecDepth 100000
set_option maxHeartbeats 2000000
namespace Acc
open PySem PySem.Spec PySem.Builtin.Itertools
open Sem (wp)
/-- the least of the first i + 1 -/
def mnv (ns : List Int) : Nat → Int
  | 0 => ns.getD 0 0
  | i + 1 => if ns.getD (i + 1) 0 < mnv ns i then ns.getD (i + 1) 0 else mnv ns i
theorem mnv_succ (ns : List Int) (i : Nat) : mnv ns (i + 1) = if ns.getD (i + 1) 0 < mnv ns i then ns.getD (i + 1) 0 else mnv ns i := rfl
/-- the sum of the first i -/
def smv (ns : List Int) : Nat → Int
  | 0 => 0
  | i + 1 => smv ns i + ns.getD i 0
/-- a list's raw items: ints whose marks are not 0 -/
def Tks (ns : List Int) (items : Array Value) : Prop := items.size = ns.length ∧ ∀ i, i < ns.length → ∃ k : Tok, k ≠ 0 ∧ items[i]? = some (.int (ns.getD i 0) k)
/-- .. with any marks -/
def Its (ns : List Int) (items : Array Value) : Prop := items.size = ns.length ∧ ∀ i, i < ns.length → ∃ k : Tok, items[i]? = some (.int (ns.getD i 0) k)
theorem nothing_ne {t : Int} {k : Tok} (h : k ≠ 0) : (Value.int t k == itNothing) = false := by
  rw [beq_eq_false_iff_ne]
  intro z
  have z' : Value.int t k = Value.int 0 0 := z
  injection z' with _ e
  exact h e
def StM (a it l : Addr) (ns : List Int) (items : Array Value) (i : Nat) (s : Shared) : Prop :=
  s.heap.IsListIter it l i ∧ s.heap.IsList l items ∧ ∃ tot, IsA s.heap a it (.builtin "min") tot ∧ ((i = 0 ∧ tot = rawInt 0) ∨ ∃ j k, i = j + 1 ∧ k ≠ 0 ∧ tot = .int (mnv ns j) k)
section
variable {prog : Program} {w : World} {A : Around} {a it l : Addr} {ns : List Int} {items : Array Value}
theorem walks_min (hh : A.handled = none) (ne : a ≠ it) (nl : l ≠ a) (nli : l ≠ it) (T : Tks ns items) :
    WalksS prog w A a [a, it, l] [a, it] (fun x y => y = x) ns.length (fun i v => ∃ k, v = .int (mnv ns i) k) (StM a it l ns items) where
  sub := fun b hb => by
    simp only [List.mem_cons, List.not_mem_nil, or_false] at hb ⊢
    rcases hb with rfl | rfl
    · exact .inl rfl
    · exact .inr (.inl rfl)
  grefl := fun _ => rfl
  gtrans := fun _ _ _ h1 h2 => h2.trans h1
  frame := fun i s h' tk st _ hk => by
    obtain ⟨h1, h2, tot, h3, h4⟩ := st
    exact ⟨h1.at fun o e => hk it (by simp) o e, h2.at fun o e => hk l (by simp) o e, tot, hk a (by simp) _ h3, h4⟩
  item := fun i s Q E hi st hQ => by
    obtain ⟨h1, h2, tot, h3, h4⟩ := st
    obtain ⟨k, hk0, hk⟩ := T.2 i hi
    have hT0 : s.TypeIs (.ref a) aT := ⟨_, h3, rfl⟩
    refine wpAny_with_toks (Nat.le_refl s.toks) ?_
    unfold pyNext
    refine wpAny_bind (wpAny_attempt (wpAny_callSpecial?_slot (name := Str.ofString "__next__") hT0 slot_next (wpAny_call_entry slot_next hT0 entry_next ?_ (args_next _))))
    rcases h4 with ⟨rfl, rfl⟩ | ⟨j, k2, rfl, hk2, rfl⟩
    · refine next_first ne h3 h1 h2 hk fun h' b1 b2 b3 b4 => wpAny_pure fun htk => ?_
      refine hQ _ _ ⟨k, rfl⟩ ⟨b2, ?_, _, b1, .inr ⟨0, k, rfl, hk0, rfl⟩⟩ ⟨fun b o hb e => ?_, rfl, rfl, rfl, htk⟩
      · exact h2.at fun o e => (b4 l nl nli).trans e
      · simp only [List.mem_cons, List.not_mem_nil, or_false, not_or] at hb
        exact (b4 b hb.1 hb.2).trans e
    · refine next_min (A := A.in1) hh ne h3 (nothing_ne hk2) h1 h2 hk fun h' tk b1 b2 b3 => wpAny_pure fun htk => ?_
      have e1 : (if ns.getD (j + 1) 0 < mnv ns j then Value.int (ns.getD (j + 1) 0) k else Value.int (mnv ns j) k2) = .int (mnv ns (j + 1)) (if ns.getD (j + 1) 0 < mnv ns j then k else k2) := by
        rw [mnv_succ]
        by_cases hc : ns.getD (j + 1) 0 < mnv ns j
        · rw [if_pos hc, if_pos hc, if_pos hc]
        · rw [if_neg hc, if_neg hc, if_neg hc]
      rw [e1] at b1 ⊢
      refine hQ _ _ ⟨_, rfl⟩ ⟨b2, h2.at fun o e => b3 l o nl nli e, _, b1, .inr ⟨j + 1, _, rfl, ?_, rfl⟩⟩ ⟨fun b o hb e => ?_, rfl, rfl, rfl, htk⟩
      · split <;> assumption
      · simp only [List.mem_cons, List.not_mem_nil, or_false, not_or] at hb
        exact b3 b o hb.1 hb.2 e
  done := fun s Q E st hQ => by
    obtain ⟨h1, h2, tot, h3, h4⟩ := st
    have hT0 : s.TypeIs (.ref a) aT := ⟨_, h3, rfl⟩
    unfold pyNext
    refine wpAny_bind (wpAny_attempt (wpAny_callSpecial?_slot (name := Str.ofString "__next__") hT0 slot_next (wpAny_call_entry slot_next hT0 entry_next ?_ (args_next _))))
    refine next_end (A := A.in1) hh h3 h1 h2 (by rw [Array.getElem?_eq_none]; rw [T.1]; exact Nat.le_refl _) fun h' e he hx => ?_
    obtain ⟨o, ho, hc⟩ := hx
    refine wpAny_bind (wpAny_isInstance (T := "StopIteration") (b := true) ⟨o, ho, hc⟩ isSubtype_stop ?_)
    refine wpAny_pure (hQ _ ⟨fun b ob hb q => he b ob (fun z => hb (by simp [z])) q, rfl, rfl, rfl, Nat.le_refl _⟩)
  self := fun i s Q E st hQ => by
    obtain ⟨h1, h2, tot, h3, h4⟩ := st
    exact iter_self h3 hQ
/-! ### list(e) of an accumulate object -/
variable {E : Value → Shared → Prop} {s : Shared}
theorem call_list {I : Addr} {fp wr : List Addr} {G : Array GenState → Array GenState → Prop} {n : Nat} {P : Nat → Value → Prop} {St : Nat → Shared → Prop} {Q : Value → Shared → Prop} (W : WalksS prog w A.in1.in1 I fp wr G n P St) (hT : ∀ i s, St i s → s.TypeIs (.ref I) aT) (hst : St 0 s)
    (hfp : ∀ b ∈ fp, b < s.heap.objs.size) (hI : I ∈ fp)
    (hQ : ∀ s' acc' c', Moved (s.heap.objs.size :: wr) G { s with heap := s.heap.push { cls := .type "list", data := .seq #[] } } s' → s'.heap.get? s.heap.objs.size = some { cls := .type "list", dict := none, data := .seq acc' c', slots := #[] } → ItemsOf P acc' n → Q (.ref s.heap.objs.size) s')
    (hn : n ≤ sizeLine) : wpAny (model prog w) A (call (.type "list") [.ref I]) Q E s := by
  have hSf : s.heap.objs.size ∉ fp := fun hm => Nat.lt_irrefl _ (hfp _ hm)
  have hSI : s.heap.objs.size ≠ I := fun e => hSf (e ▸ hI)
  refine callType_codes (Q₁ := fun obj s₁ => obj = .ref s.heap.objs.size ∧ s₁ = { s with heap := s.heap.push { cls := .type "list", data := .seq #[] } }) F.called_list (F.typeCall_list_1 _) F.entry_list_init (code_list_new _ ⟨rfl, rfl⟩) fun obj s₁ h₁ => ?_
  obtain ⟨rfl, rfl⟩ := h₁
  have hS : (s.heap.push { cls := .type "list", data := .seq #[] }).get? s.heap.objs.size = some { cls := .type "list", data := .seq #[] } := Heap.get?_push_size _ rfl
  have st1 := W.frame 0 s (s.heap.push { cls := .type "list", data := .seq #[] }) s.toks hst (Nat.le_refl _) fun b _ o e => Heap.get?_push_of_some _ e
  refine ⟨⟨_, hS, rfl⟩, F.args_list_init_2 _ _, ?_⟩
  generalize hs1 : ({ s with heap := s.heap.push { cls := .type "list", data := .seq #[] } } : Shared) = s1 at hS st1 ⊢ hQ
  generalize hSz : s.heap.objs.size = S at hS hSf hSI hQ ⊢
  have hS : s1.heap.get? S = some { cls := .type "list", data := .seq #[] } := by rw [← hs1]; exact hS
  show wpAny _ _ (do let old ← Builtin.List.listItems (.ref S); Builtin.List.listUpdate (.ref S) (fun _ => #[]); letGo old.toList.reverse; Builtin.List.listExtendWith (.ref S) (.ref I) .none) _ _ s1
  refine wpAny_bind ?_
  unfold Builtin.List.listItems
  refine wpAny_bind (wpAny_seqItems hS rfl (wpAny_pure ?_))
  show wpAny _ _ (updateSeq S (fun _ => #[]) >>= fun _ => letGo (#[] : Array Value).toList.reverse >>= fun _ => Builtin.List.listExtendWith (.ref S) (.ref I) .none) _ _ s1
  refine wpAny_bind (wpAny_updateSeq hS rfl ?_)
  have hS2 := Heap.get?_update_self (Obj.mapSeq (fun _ => (#[] : Array Value))) hS rfl
  have oth : ∀ b o, b ≠ S → s1.heap.get? b = some o → (s1.heap.update S (Obj.mapSeq (fun _ => (#[] : Array Value)))).get? b = some o := fun b o hb e => (Heap.get?_update_other _ _ (Ne.symm hb)).trans e
  have st2 := W.frame 0 s1 _ s1.toks st1 (Nat.le_refl _) fun b hb o e => oth b o (fun h => hSf (h ▸ hb)) e
  refine wpAny_bind (wpAny_letGo ?_)
  generalize hs2 : ({ s1 with heap := s1.heap.update S (Obj.mapSeq (fun _ => (#[] : Array Value))) } : Shared) = s2 at st2 ⊢
  have hS2 : s2.heap.get? S = some { cls := .type "list", data := .seq #[] 0 } := by
    rw [← hs2]
    exact hS2
  have mv : Moved (S :: wr) G s1 s2 := by
    rw [← hs2]
    exact (Moved.refl W.grefl).then_heap (Nat.le_refl _) fun b o hb e => oth b o (fun h => hb (h ▸ List.mem_cons_self)) e
  unfold Builtin.List.listExtendWith
  refine wpAny_bind (wpAny_typeOf (hT 0 _ st2) ?_)
  have h1 : Builtin.List.listSameRef (.ref S) (.ref I) = false := by simp [Builtin.List.listSameRef, hSI]
  have h2 : (Value.type aT == Value.type "list") = false := by decide
  have h3 : (Value.type aT == Value.type "tuple") = false := by decide
  simp only [h1, h2, h3, Bool.or_false, Bool.false_eq_true, if_false]
  refine wpAny_bind (W.self 0 _ _ _ st2 ?_)
  refine wpAny_bind (wpAny_holding ?_)
  unfold Builtin.List.listLengthHint
  refine wpAny_bind (wpAny_specialOf (hT 0 _ st2) noLen ?_)
  show wpAny _ _ (specialOf (Value.ref I) (Str.ofString "__length_hint__") >>= _) _ _ _
  refine wpAny_bind (wpAny_specialOf (hT 0 _ st2) noHint ?_)
  refine wpAny_pure ?_
  show wpAny _ _ (rule "list.extend.makes-room" >>= fun _ => Builtin.List.listTouch (.ref S) >>= fun _ => again (.builtin "list.extend.loop" ⟨[.ref S, .ref I, .none], []⟩)) _ _ _
  refine wpAny_bind (wpAny_rule ?_)
  refine wpAny_bind ?_
  show wpAny _ _ (updateSeq S (·.push .none) >>= fun _ => updateSeq S (·.pop)) _ _ _
  refine wpAny_bind (wpAny_updateSeq hS2 rfl ?_)
  have hS3 := Heap.get?_update_self (Obj.mapSeq (·.push Value.none)) hS2 rfl
  refine wpAny_updateSeq (hz := by seq_fits) hS3 rfl ?_
  have hS4 := Heap.get?_update_self (Obj.mapSeq (·.pop)) hS3 rfl
  have oth2 : ∀ b o, b ≠ S → s2.heap.get? b = some o → ((s2.heap.update S (Obj.mapSeq (·.push Value.none))).update S (Obj.mapSeq (·.pop))).get? b = some o := fun b o hb e => (Heap.get?_update_other _ _ (Ne.symm hb)).trans ((Heap.get?_update_other _ _ (Ne.symm hb)).trans e)
  refine wpAny_pure ⟨plainId_quiet F.plain_extend_loop _, codeAny_extend_loopS W hn _ hSf _ n 0 _ _ _ rfl (Nat.zero_le _) (W.frame 0 s2 _ s2.toks st2 (Nat.le_refl _) fun b hb o e => oth2 b o (fun h => hSf (h ▸ hb)) e) hS4 (ItemsOf.nil P) fun s' acc' c' hm hS' hacc => ?_⟩
  exact ⟨rfl, hQ s' acc' c' (Moved.trans W.gtrans mv (Moved.trans W.gtrans ((Moved.refl W.grefl).then_heap (Nat.le_refl _) fun b o hb e => oth2 b o (fun h => hb (h ▸ List.mem_cons_self)) e) hm)) hS' hacc⟩
end
end Acc

set_option Elab.async false
set_option linter.all false
set_option maxRecDepth 100000
set_option maxHeartbeats 2000000
namespace FL
open PySem PySem.Spec PyProof.Rows L2
/-- the running least ones, the running sums -/
def scanMin (ns : List Int) : List Int := (List.range ns.length).map (Acc.mnv ns)
def scanAdd (ns : List Int) : List Int := (List.range ns.length).map fun i => Acc.smv ns (i + 1)
/-- a list object of marked ints -/
def TokO (o : Obj) (ns : List Int) : Prop := ∃ its n, o = { cls := .type "list", data := .seq its n } ∧ Acc.Tks ns its
/-- list(accumulate(y, min)), y locked with its marks known -/
def tAccMin (i : Nat) : TE := fun σ H Q => ∃ p o ns, σ[i]? = some (some (V.ref p)) ∧ H p = some (.frz o (.lst (ns.map V.int))) ∧ TokO o ns ∧ ns.length ≤ 1000000 ∧ ∀ q, H q = none → Q (.ref q) (upd H q (.lst ((scanMin ns).map V.int)))
theorem items_vals {P : Nat → Int} : ∀ (n : Nat) (acc : Array Value), ItemsOf (fun i v => ∃ k, v = Value.int (P i) k) acc n → Vals (((List.range n).map P).map V.int) acc.toList := by
  intro n acc h
  have hs : acc.size = n := h.1
  have key : ∀ (xs : List V) (us : List Value), xs.length = us.length → (∀ (i : Nat) (v : Value), us[i]? = some v → ∃ x, xs[i]? = some x ∧ RelV x v) → Vals xs us := by
    intro xs
    induction xs with
    | nil => intro us hl _; cases us with
      | nil => exact .nil
      | cons _ _ => simp at hl
    | cons x xs ih => intro us hl hr; cases us with
      | nil => simp at hl
      | cons u us =>
        obtain ⟨x', e, r⟩ := hr 0 u rfl
        simp at e
        subst e
        exact .cons r (ih us (by simpa using hl) fun i v q => by
          obtain ⟨x', e, r⟩ := hr (i + 1) v (by simpa using q)
          exact ⟨x', by simpa using e, r⟩)
  refine key _ _ (by simp [hs]) fun i v q => ?_
  have hi : i < n := by
    have := (List.getElem?_eq_some_iff.mp q).1
    simp at this
    omega
  obtain ⟨k, e⟩ := h.2 i v (by simpa using q)
  refine ⟨.int (P i), by simp [hi], k, e⟩
section
variable {X : Cx} {y : Str} {p p2 p3 py q pos : Pos} {i : Nat}
theorem pe_accMin (hg : Gl X "list") (hm : X.mg "list" = none) (hg2 : Gl X "accumulate") (hm2 : X.mg "accumulate" = some (.type Acc.aT)) (hg3 : Gl X "min") (hm3 : X.mg "min" = none) (hy : PE X (.Name y py) (tVar i)) (hc : X.calm = true := by rfl)
    (na : starEach [.Call (.Name "accumulate" p2) [.Name y py, .Name "min" p3] [] q] X.env = (false, eval (.Call (.Name "accumulate" p2) [.Name y py, .Name "min" p3] [] q) X.env) :: starEach [] X.env := by rfl)
    (nb : starEach [.Name y py, .Name "min" p3] X.env = (false, eval (.Name y py) X.env) :: starEach [.Name "min" p3] X.env := by rfl) (nc : starEach [.Name "min" p3] X.env = (false, eval (.Name "min" p3) X.env) :: starEach [] X.env := by rfl)
    (nd : (backTo q (starEach [.Name "min" p3] X.env)).any (·.1) = false := by rfl) (ne : (backTo pos (starEach ([] : List Expr) X.env)).any (·.1) = false := by rfl) :
    PE X (.Call (.Name "list" p) [.Call (.Name "accumulate" p2) [.Name y py, .Name "min" p3] [] q] [] pos) (tAccMin i) := by
  refine ⟨fun pins s σ H Q I h => ?_⟩
  obtain ⟨l, o, ns, hσ, hH, tk, hn, k⟩ := h
  refine Call_ (ld_blt I hg hm boot_list ?_)
  refine PyProof.Rows.callWith_type1 (PyProof.Rows.args_cons ?_ na) na ne
  refine Call_ (ld_glob I hg2 hm2 ?_)
  refine PyProof.Rows.callWith_type1 (PyProof.Rows.args_cons (thn (hy.run pins s σ H (fun v H' => v = .ref l ∧ H' = H) I ⟨_, hσ, rfl, rfl⟩) fun v s1 ⟨v', H1, I1, r1, e1, e2⟩ => ?_) nb) nb nd
  subst e2 e1
  cases r1
  refine PyProof.Rows.args_cons (ld_blt I1 hg3 hm3 boot_min ?_) nc
  refine PyProof.Rows.args_nil ?_
  obtain ⟨its, n, rfl, T⟩ := tk
  obtain ⟨ge, _⟩ := (show ObjOk X.prog X.w H1 s1.heap l (.frz _ (.lst (ns.map V.int))) from I1.hok l _ hH)
  have hl : s1.heap.IsList l its := ⟨_, ge, rfl, n, rfl⟩
  have ll : l < s1.heap.objs.size := Heap.lt_size ge
  refine Acc.call_2 hl fun h2 hit ha hsz kp => ?_
  refine PyProof.Rows.args_nil ?_
  have hh : X.A.handled = none := I.ok.hd hc
  have hl2 : h2.IsList l its := hl.at fun o e => kp l o e
  refine Acc.call_list (n := ns.length) (Acc.walks_min (A := X.A.in1.in1) hh (Nat.succ_ne_self _) (Nat.ne_of_lt (Nat.lt_succ_of_lt ll)) (Nat.ne_of_lt ll) T) (fun i s st => ?_) ⟨hit, hl2, _, ha, .inl ⟨rfl, rfl⟩⟩ (fun b hb => ?_) (by simp) (fun s3 acc c hm3 hD hacc => ?_) (Nat.le_trans hn (by decide))
  · obtain ⟨_, _, tot, h3, _⟩ := st
    exact ⟨_, h3, rfl⟩
  · show b < h2.objs.size
    simp only [List.mem_cons, List.not_mem_nil, or_false] at hb
    rcases hb with rfl | rfl | rfl
    · rw [hsz]; exact Nat.lt_succ_self _
    · rw [hsz]; exact Nat.lt_succ_of_lt (Nat.lt_succ_self _)
    · rw [hsz]; exact Nat.lt_of_lt_of_le ll (Nat.le_add_right _ _)
  · have es := Moved.eq_with hm3
    rw [es]
    have hszn : s1.heap.objs.size ≤ h2.objs.size := by rw [hsz]; exact Nat.le_add_right _ _
    have new : ObjOk X.prog X.w (upd H1 h2.objs.size (.lst ((scanMin ns).map V.int))) s3.heap h2.objs.size (.lst ((scanMin ns).map V.int)) := by
      refine ⟨?_, acc.toList, c, items_vals _ _ hacc, ?_⟩
      · show (((List.range ns.length).map (Acc.mnv ns)).map V.int).length ≤ sizeLine
        simp
        exact Nat.le_trans hn (by decide)
      · rw [Array.toArray_toList]
        exact hD
    refine ⟨.ref h2.objs.size, _, I1.laid (fun b u e => ?_) hszn new, rfl, k _ (I1.hok.fresh hszn)⟩
    have hb := Heap.lt_size e
    · refine hm3.heap b u (fun z => ?_) (Heap.get?_push_of_some _ (kp b u e))
      simp only [List.mem_cons, List.not_mem_nil, or_false] at z
      have z' : b = h2.objs.size ∨ b = s1.heap.objs.size + 1 ∨ b = s1.heap.objs.size := z
      have z2 : (b : Nat) < s1.heap.objs.size := hb
      rw [hsz] at z'
      rcases z' with z' | z' | z'
      · exact absurd hb (by rw [z']; exact Nat.not_lt.mpr (Nat.le_add_right _ _))
      · exact absurd hb (by rw [z']; exact Nat.not_lt.mpr (Nat.le_add_right _ _))
      · exact absurd hb (by rw [z']; exact Nat.lt_irrefl _)
end
end FL

set_option Elab.async false
set_option linter.all false
set_option maxRecDepth 100000
set_option maxHeartbeats 2000000
/-! ## zip(list, accumulate(list)) -/
namespace Acc
open PySem PySem.Spec PySem.Builtin.Itertools
open Sem (wp)
section
variable {prog : Program} {w : World} {A : Around} {E : Value → Shared → Prop} {s : Shared}
/-- what all but some addresses are -/
def Kept (ch : List Nat) (h h' : Heap) : Prop := ∀ b o, b ∉ ch → h.get? b = some o → h'.get? b = some o
theorem sum_item {a it l : Nat} {i : Nat} {items : Array Value} {t y : Int} {k j : Tok} {Q : Value → Shared → Prop} (ne : a ≠ it) (ha : IsA s.heap a it .none (.int t k)) (hit : s.heap.IsListIter it l i) (hl : s.heap.IsList l items) (hx : items[i]? = some (.int y j))
    (h : ∀ h' tk t', IsA h' a it .none (.int (t + y) t') → h'.IsListIter it l (i + 1) → h'.objs.size = s.heap.objs.size → Kept [a, it] s.heap h' → Q (.int (t + y) t') { s with heap := h', toks := tk }) :
    wpAny (model prog w) A (Builtin.SmallTypes.nextOf (.ref a)) Q E s := by
  have hT : s.TypeIs (.ref a) aT := ⟨_, ha, rfl⟩
  unfold Builtin.SmallTypes.nextOf
  refine wpAny_bind (wpAny_callSpecial?_slot (name := Str.ofString "__next__") hT slot_next (wpAny_call_entry slot_next hT entry_next ?_ (args_next _)))
  cases hk : (Value.int t k == itNothing) with
  | true =>
    have e : Value.int t k = Value.int 0 0 := eq_of_beq hk
    injection e with e1 e2
    subst e1 e2
    refine next_first ne ha hit hl hx fun h' b1 b2 b3 b4 => wpAny_pure ?_
    have z : (0 : Int) + y = y := Int.zero_add y
    have q := h h' s.toks j (by rw [z]; exact b1) b2 b3 fun b o hb e => by
      simp only [List.mem_cons, List.not_mem_nil, or_false, not_or] at hb
      exact (b4 b hb.1 hb.2).trans e
    rw [z] at q
    exact q
  | false => exact next_add ne ha hk hit hl hx fun h' tk b1 b2 b3 b4 => wpAny_pure (h h' tk _ b1 b2 b3 fun b o hb e => by
      simp only [List.mem_cons, List.not_mem_nil, or_false, not_or] at hb
      exact (b4 b hb.1 hb.2).trans e)
theorem sum_end {a it l : Nat} {i : Nat} {items : Array Value} {tot : Value} {Q : Value → Shared → Prop} (hh : A.handled = none) (ha : IsA s.heap a it .none tot) (hit : s.heap.IsListIter it l i) (hl : s.heap.IsList l items) (hx : items[i]? = none)
    (hE : ∀ h' e, Heap.ExtBut it s.heap h' → (∃ o, h'.get? e = some o ∧ o.cls = .type "StopIteration") → E (.ref e) { s with heap := h' }) : wpAny (model prog w) A (Builtin.SmallTypes.nextOf (.ref a)) Q E s := by
  have hT : s.TypeIs (.ref a) aT := ⟨_, ha, rfl⟩
  unfold Builtin.SmallTypes.nextOf
  exact wpAny_bind (wpAny_callSpecial?_slot (name := Str.ofString "__next__") hT slot_next (wpAny_call_entry slot_next hT entry_next (next_end (A := A.in1) hh ha hit hl hx hE) (args_next _)))

/-! ### the zip object is made -/
abbrev zA1 (h : Heap) (l1 : Addr) : Heap := h.push { cls := .type "list_iterator", data := .fields #[.ref l1, .int 0 0] }
abbrev zA2 (h : Heap) (l1 a : Addr) : Heap := (zA1 h l1).push { cls := .type "tuple", data := .seq #[.ref h.objs.size, .ref a] }
abbrev zA3 (h : Heap) (l1 a : Addr) : Heap := (zA2 h l1 a).push { cls := .type "tuple", data := .seq #[.none, .none] }
abbrev zA4 (h : Heap) (l1 a : Addr) : Heap := (zA3 h l1 a).push { cls := .type "zip", data := .fields #[.none, .bool false, .bool false, .ref (zA1 h l1).objs.size, .ref (zA2 h l1 a).objs.size] }
theorem meets_zipA (l1 a it : Addr) (xs : Array Value) (f tot : Value) :
    Meets (Builtin.«zip.__new__» ⟨[.type "zip", .ref l1, .ref a], []⟩) (fun _ R s => s.heap.IsList l1 xs ∧ IsA s.heap a it f tot ∧ R (.ok (.ret (.ref (zA3 s.heap l1 a).objs.size))) { s with heap := zA4 s.heap l1 a }) :=
  .of_wp fun prog w A R s h => by
    obtain ⟨hp, g, d, tk, os⟩ := s
    obtain ⟨hl1, ha, h⟩ := h
    have hsub := sub_zip
    have hL1 : Heap.IsList (Shared.heap ⟨hp, g, d, tk, os⟩) l1 xs := hl1
    have hA : IsA (Shared.heap ⟨hp.push { cls := .type "list_iterator", data := .fields #[.ref l1, .int 0 0] }, g, d, tk, os⟩) a it f tot := Heap.get?_push_of_some _ ha
    wp_walk using wpAny_pyIter_list hL1, iter_self hA
    exact ⟨_, rfl, h⟩
theorem call_zipA {l1 a it : Addr} {xs : Array Value} {f tot : Value} {Q : Value → Shared → Prop} (hl1 : s.heap.IsList l1 xs) (ha : IsA s.heap a it f tot)
    (h : ∀ h', IsZip h' (s.heap.objs.size + 3) (s.heap.objs.size + 1) (s.heap.objs.size + 2) .none → IsPair h' (s.heap.objs.size + 1) (.ref s.heap.objs.size) (.ref a) → IsPair h' (s.heap.objs.size + 2) .none .none → h'.IsListIter s.heap.objs.size l1 0 → h'.objs.size = s.heap.objs.size + 4 →
      (∀ c o, s.heap.get? c = some o → h'.get? c = some o) → Q (.ref (s.heap.objs.size + 3)) { s with heap := h' }) :
    wpAny (model prog w) A (call (.type "zip") [.ref l1, .ref a]) Q E s := by
  refine callType_new F.called_zip (by decide) (F.typeCall_zip_2 _ _) (F.newCall_zip_2 _ _) (fun obj => F.args_object_init_3 obj _ _) F.entry_zip_new (meets_zipA l1 a it xs f tot) ⟨hl1, ha, ?_⟩
  have z1 : (zA1 s.heap l1).objs.size = s.heap.objs.size + 1 := Heap.size_push ..
  have z2 : (zA2 s.heap l1 a).objs.size = s.heap.objs.size + 2 := by rw [Heap.size_push, z1]
  have z3 : (zA3 s.heap l1 a).objs.size = s.heap.objs.size + 3 := by rw [Heap.size_push, z2]
  have z4 : (zA4 s.heap l1 a).objs.size = s.heap.objs.size + 4 := by rw [Heap.size_push, z3]
  have g4 : (zA4 s.heap l1 a).get? (zA3 s.heap l1 a).objs.size = some _ := Heap.get?_push_size _ rfl
  have g3 : (zA4 s.heap l1 a).get? (zA2 s.heap l1 a).objs.size = some _ := Heap.get?_push_of_some _ (Heap.get?_push_size _ rfl)
  have g2 : (zA4 s.heap l1 a).get? (zA1 s.heap l1).objs.size = some _ := Heap.get?_push_of_some _ (Heap.get?_push_of_some _ (Heap.get?_push_size _ rfl))
  have g1 : (zA4 s.heap l1 a).get? s.heap.objs.size = some _ := Heap.get?_push_of_some _ (Heap.get?_push_of_some _ (Heap.get?_push_of_some _ (Heap.get?_push_size _ rfl)))
  show _ ∧ _
  rw [z1, z2, z3] at g4
  rw [z1] at g2
  rw [z2] at g3
  rw [z3]
  exact ⟨⟨_, g4, rfl⟩, h _ g4 g2 g3 ⟨_, g1, rfl, rfl⟩ z4 fun c o x => Heap.get?_push_of_some _ (Heap.get?_push_of_some _ (Heap.get?_push_of_some _ (Heap.get?_push_of_some _ x)))⟩
end
end Acc

set_option Elab.async false
set_option linter.all false
set_option maxRecDepth 100000
set_option maxHeartbeats 2000000
namespace Acc
open PySem PySem.Spec PySem.Builtin.Itertools
open Sem (wp)
/-- the walk's state: six objects from n on, the running sum -/
def ZSt (l1 l2 n : Nat) (ns : List Int) (i : Nat) (h : Heap) : Prop :=
  IsZip h (n + 5) (n + 3) (n + 4) .none ∧ IsPair h (n + 3) (.ref (n + 2)) (.ref (n + 1)) ∧ (∃ x y, IsPair h (n + 4) x y) ∧ h.IsListIter (n + 2) l1 i ∧ h.IsListIter n l2 i ∧ ∃ k, IsA h (n + 1) n .none (.int (smv ns i) k)
theorem same_kept {x : Nat} {h h' : Heap} (sb : Heap.SameBut x h h') {b : Nat} (hb : b ≠ x) : h'.get? b = h.get? b := sb.2 b hb
section
variable {prog : Program} {w : World} {A : Around} {E : Value → Shared → Prop} {s : Shared} {l1 l2 n : Nat} {ns : List Int} {i : Nat} {xs ys : Array Value}
theorem zip_item {x : Value} {k : Tok} {Q : Value → Shared → Prop} (st : ZSt l1 l2 n ns i s.heap) (h1 : l1 < n) (h2 : l2 < n) (hl1 : s.heap.IsList l1 xs) (hl2 : s.heap.IsList l2 ys) (hx : xs[i]? = some x) (hy : ys[i]? = some (.int (ns.getD i 0) k))
    (hQ : ∀ h' tk t, IsZip h' (n + 5) (n + 3) (n + 4) (rawInt s.heap.objs.size) → IsPair h' (n + 4) x (.int (smv ns (i + 1)) t) → h'.IsListIter (n + 2) l1 (i + 1) → h'.IsListIter n l2 (i + 1) → IsA h' (n + 1) n .none (.int (smv ns (i + 1)) t) → IsPair h' s.heap.objs.size x (.int (smv ns (i + 1)) t) →
      Kept [n, n + 1, n + 2, n + 4, n + 5] s.heap h' → Q (.ref s.heap.objs.size) { s with heap := h', toks := tk }) :
    wpAny (model prog w) A (Builtin.«zip.__next__» ⟨[.ref (n + 5)], []⟩) (fun fin s' => ∃ v, fin = .done (.ret v) ∧ Q v s') E s := by
  obtain ⟨hz, hTI, ⟨a, b, hTO⟩, hi1, hi2, t0, hA⟩ := st
  obtain ⟨hp, g, d, tk0, os⟩ := s
  show wpAny _ _ (field (.ref (n + 5)) 2 >>= _) _ _ _
  refine wpAny_bind (wpAny_field hz rfl (x := .bool false) rfl ?_)
  show wpAny _ _ (field (.ref (n + 5)) 3 >>= _) _ _ _
  refine wpAny_bind (wpAny_field hz rfl (x := .ref (n + 3)) rfl ?_)
  refine wpAny_bind (wpAny_seqItems hTI rfl ?_)
  show wpAny _ _ (Builtin.SmallTypes.ownedTupleIsFree (.ref (n + 5)) >>= _) _ _ _
  refine wpAny_bind ?_
  unfold Builtin.SmallTypes.ownedTupleIsFree
  refine wpAny_bind (wpAny_field hz rfl (x := .none) rfl (wpAny_pure ?_))
  simp only [if_true]
  refine wpAny_bind (wpAny_rule ?_)
  refine wpAny_bind (wpAny_field hz rfl (x := .ref (n + 4)) rfl ?_)
  refine wpAny_bind (wpAny_setField_rec hz (by simp) fun g0 hz0 hs0 => ?_)
  replace hz0 : IsZip g0 (n + 5) (n + 3) (n + 4) .ellipsis := hz0
  replace hs0 : Heap.SameBut (n + 5) hp g0 := hs0
  refine wpAny_bind ?_
  simp only [List.zipIdx_cons, List.zipIdx_nil, List.forIn_cons, List.forIn_nil]
  refine wpAny_bind (wpAny_bind (wpAny_onRaise ?_))
  have k0 : ∀ b : Nat, b ≠ n + 5 → g0.get? b = hp.get? b := fun b hb => hs0.2 b hb
  show wpAny _ _ (Builtin.SmallTypes.nextOf (.ref (n + 2)) >>= _) _ _ ⟨g0, g, d, tk0, os⟩
  refine wpAny_bind (wpAny_nextOf_list_item (hi1.at fun o e => (k0 (n + 2) (by omega)).trans e) (hl1.at fun o e => (k0 l1 (by omega)).trans e) hx fun p1 hj1 hs1 => wpAny_pure ?_)
  replace hs1 : Heap.SameBut (n + 2) g0 p1 := hs1
  have k1 : ∀ b : Nat, b ≠ n + 5 → b ≠ n + 2 → p1.get? b = hp.get? b := fun b hb hb2 => (hs1.2 b hb2).trans (k0 b hb)
  have hU1 : IsPair p1 (n + 4) a b := (k1 (n + 4) (by omega) (by omega)).trans hTO
  refine wpAny_bind (wpAny_seqItems (s := ⟨p1, g, d, tk0, os⟩) hU1 rfl ?_)
  refine wpAny_bind (wpAny_updateSeq_pair (s := ⟨p1, g, d, tk0, os⟩) hU1 fun g1 hT1 hs2 => ?_)
  replace hT1 : IsPair g1 (n + 4) x b := hT1
  replace hs2 : Heap.SameBut (n + 4) p1 g1 := hs2
  have k2 : ∀ b : Nat, b ≠ n + 5 → b ≠ n + 2 → b ≠ n + 4 → g1.get? b = hp.get? b := fun b hb hb2 hb3 => (hs2.2 b hb3).trans (k1 b hb hb2)
  refine wpAny_bind (wpAny_letGo (wpAny_pure ?_))
  refine wpAny_bind (wpAny_bind (wpAny_onRaise ?_))
  show wpAny _ _ (Builtin.SmallTypes.nextOf (.ref (n + 1)) >>= _) _ _ ⟨g1, g, d, tk0, os⟩
  refine wpAny_bind (sum_item (s := ⟨g1, g, d, tk0, os⟩) (a := n + 1) (it := n) (l := l2) (by omega) ((k2 (n + 1) (by omega) (by omega) (by omega)).trans hA) (hi2.at fun o e => (k2 n (by omega) (by omega) (by omega)).trans e)
    (hl2.at fun o e => (k2 l2 (by omega) (by omega) (by omega)).trans e) hy fun p2 tk2 t hA2 hj2 hsz2 kp2 => wpAny_pure ?_)
  replace hsz2 : p2.objs.size = g1.objs.size := hsz2
  replace kp2 : Kept [n + 1, n] g1 p2 := kp2
  have hU2 : IsPair p2 (n + 4) x b := kp2 (n + 4) _ (by simp) hT1
  refine wpAny_bind (wpAny_seqItems (s := ⟨p2, g, d, tk2, os⟩) hU2 rfl ?_)
  refine wpAny_bind (wpAny_updateSeq_pair (s := ⟨p2, g, d, tk2, os⟩) hU2 fun g2 hT2 hs3 => ?_)
  replace hT2 : IsPair g2 (n + 4) x (.int (smv ns (i + 1)) t) := hT2
  replace hs3 : Heap.SameBut (n + 4) p2 g2 := hs3
  refine wpAny_bind (wpAny_letGo (wpAny_pure (wpAny_pure ?_)))
  refine wpAny_bind (wpAny_seqItems (s := ⟨g2, g, d, tk2, os⟩) hT2 rfl ?_)
  refine wpAny_bind (wpAny_newTuple ?_)
  have hsz : g2.objs.size = hp.objs.size := by rw [hs3.1, hsz2, hs2.1, hs1.1, hs0.1]
  have kk : ∀ (b : Nat) o, b ≠ n + 5 → b ≠ n + 2 → b ≠ n + 4 → b ≠ n + 1 → b ≠ n → hp.get? b = some o → g2.get? b = some o := fun b o b1 b2 b3 b4 b5 e =>
    (hs3.2 b b3).trans (kp2 b o (by simp [b4, b5]) ((k2 b b1 b2 b3).trans e))
  have hzz : IsZip g2 (n + 5) (n + 3) (n + 4) .ellipsis := (hs3.2 (n + 5) (by show (n + 5 : Nat) ≠ n + 4; omega)).trans (kp2 (n + 5) _ (by simp) ((hs2.2 (n + 5) (by show (n + 5 : Nat) ≠ n + 4; omega)).trans ((hs1.2 (n + 5) (by show (n + 5 : Nat) ≠ n + 2; omega)).trans hz0)))
  have hzlt : (n + 5 : Nat) < g2.objs.size := Heap.lt_size hzz
  show wpAny _ _ (Builtin.SmallTypes.ownedTupleHandOut (.ref (n + 5)) (.ref g2.objs.size) >>= _) _ _ ⟨g2.push { cls := .type "tuple", data := .seq #[x, .int (smv ns (i + 1)) t] }, g, d, tk2, os⟩
  refine wpAny_bind ?_
  unfold Builtin.SmallTypes.ownedTupleHandOut
  have hz6 : IsZip (g2.push { cls := .type "tuple", data := .seq #[x, .int (smv ns (i + 1)) t] }) (n + 5) (n + 3) (n + 4) .ellipsis := Heap.get?_push_of_some _ hzz
  refine wpAny_bind (wpAny_setField_rec hz6 (by simp) fun h7 hz7 hs7 => ?_)
  replace hz7 : IsZip h7 (n + 5) (n + 3) (n + 4) (rawInt g2.objs.size) := hz7
  refine wpAny_setField_rec hz7 (by simp) fun h8 hz8 hs8 => ?_
  replace hz8 : IsZip h8 (n + 5) (n + 3) (n + 4) (rawInt g2.objs.size) := hz8
  replace hs7 : Heap.SameBut (n + 5) (g2.push { cls := .type "tuple", data := .seq #[x, .int (smv ns (i + 1)) t] }) h7 := hs7
  replace hs8 : Heap.SameBut (n + 5) h7 h8 := hs8
  have up : ∀ (c : Nat) o, c ≠ n + 5 → g2.get? c = some o → h8.get? c = some o := fun c o c1 e => (hs8.2 c c1).trans ((hs7.2 c c1).trans (Heap.get?_push_of_some _ e))
  have hT8 : IsPair h8 g2.objs.size x (.int (smv ns (i + 1)) t) := (hs8.2 _ (Nat.ne_of_gt hzlt)).trans ((hs7.2 _ (Nat.ne_of_gt hzlt)).trans (Heap.get?_push_size _ rfl))
  rw [hsz] at hz8 hT8
  refine wpAny_pure ⟨_, rfl, ?_⟩
  show Q (.ref g2.objs.size) ⟨h8, g, d, tk2, os⟩
  rw [hsz]
  refine hQ h8 tk2 t hz8 (up _ _ (by omega) hT2) (hj1.at fun o e => up (n + 2) o (by omega) ?_) (hj2.at fun o e => up n o (by omega) ((hs3.2 n (by show (n : Nat) ≠ n + 4; omega)).trans e)) (up (n + 1) _ (by omega) ((hs3.2 (n + 1) (by show (n + 1 : Nat) ≠ n + 4; omega)).trans hA2)) hT8 fun b o hb e => ?_
  · exact (hs3.2 (n + 2) (by show (n + 2 : Nat) ≠ n + 4; omega)).trans (kp2 (n + 2) o (by simp) ((hs2.2 (n + 2) (by show (n + 2 : Nat) ≠ n + 4; omega)).trans e))
  · simp only [List.mem_cons, List.not_mem_nil, or_false, not_or] at hb
    exact up b o hb.2.2.2.2 (kk b o hb.2.2.2.2 hb.2.2.1 hb.2.2.2.1 hb.2.1 hb.1 e)
end
end Acc

set_option Elab.async false
set_option linter.all false
set_option maxRecDepth 100000
set_option maxHeartbeats 2000000
namespace Acc
open PySem PySem.Spec PySem.Builtin.Itertools
open Sem (wp)
section
variable {prog : Program} {w : World} {A : Around} {E : Value → Shared → Prop} {s : Shared} {l1 l2 n : Nat} {ns : List Int} {i : Nat} {xs ys : Array Value}
theorem zip_end {Q : Fin → Shared → Prop} (hh : A.handled = none) (st : ZSt l1 l2 n ns i s.heap) (h1 : l1 < n) (h2 : l2 < n) (hl1 : s.heap.IsList l1 xs) (hl2 : s.heap.IsList l2 ys) (hx : xs[i]? = none ∨ ys[i]? = none)
    (hE : ∀ h' e, Kept [n, n + 1, n + 2, n + 4, n + 5] s.heap h' → (∃ o, h'.get? e = some o ∧ o.cls = .type "StopIteration") → E (.ref e) { s with heap := h' }) :
    wpAny (model prog w) A (Builtin.«zip.__next__» ⟨[.ref (n + 5)], []⟩) Q E s := by
  obtain ⟨hz, hTI, ⟨a, b, hTO⟩, hi1, hi2, t0, hA⟩ := st
  obtain ⟨hp, g, d, tk0, os⟩ := s
  show wpAny _ _ (field (.ref (n + 5)) 2 >>= _) _ _ _
  refine wpAny_bind (wpAny_field hz rfl (x := .bool false) rfl ?_)
  show wpAny _ _ (field (.ref (n + 5)) 3 >>= _) _ _ _
  refine wpAny_bind (wpAny_field hz rfl (x := .ref (n + 3)) rfl ?_)
  refine wpAny_bind (wpAny_seqItems hTI rfl ?_)
  show wpAny _ _ (Builtin.SmallTypes.ownedTupleIsFree (.ref (n + 5)) >>= _) _ _ _
  refine wpAny_bind ?_
  unfold Builtin.SmallTypes.ownedTupleIsFree
  refine wpAny_bind (wpAny_field hz rfl (x := .none) rfl (wpAny_pure ?_))
  simp only [if_true]
  refine wpAny_bind (wpAny_rule ?_)
  refine wpAny_bind (wpAny_field hz rfl (x := .ref (n + 4)) rfl ?_)
  refine wpAny_bind (wpAny_setField_rec hz (by simp) fun g0 hz0 hs0 => ?_)
  replace hz0 : IsZip g0 (n + 5) (n + 3) (n + 4) .ellipsis := hz0
  replace hs0 : Heap.SameBut (n + 5) hp g0 := hs0
  refine wpAny_bind ?_
  simp only [List.zipIdx_cons, List.zipIdx_nil, List.forIn_cons, List.forIn_nil]
  refine wpAny_bind (wpAny_bind (wpAny_onRaise ?_))
  have k0 : ∀ b : Nat, b ≠ n + 5 → g0.get? b = hp.get? b := fun b hb => hs0.2 b hb
  have fin : ∀ (g1 q : Heap) (e : Addr) (y : Nat), y ≠ n + 5 → IsZip g1 (n + 5) (n + 3) (n + 4) .ellipsis → (∀ b : Nat, b ≠ n + 5 → b ≠ n + 2 → b ≠ n + 4 → g1.get? b = hp.get? b) → (y = n ∨ y = n + 2) → Heap.ExtBut y g1 q → (∃ o, q.get? e = some o ∧ o.cls = .type "StopIteration") →
      wpAny (model prog w) A (setField (.ref (n + 5)) 0 .none) (fun _ s' => E (.ref e) s') E ⟨q, g, d, tk0, os⟩ := by
    intro g1 q e y hy hzg kg hy2 hq he
    obtain ⟨oe, hoe, hce⟩ := he
    have hzq : IsZip q (n + 5) (n + 3) (n + 4) .ellipsis := hq _ _ (Ne.symm hy) hzg
    have hez : e ≠ n + 5 := fun x => by
      subst x
      rw [hzq] at hoe
      cases hoe
      simp at hce
    refine wpAny_setField_rec (s := ⟨q, g, d, tk0, os⟩) hzq (by simp) fun q' _ hq' => ?_
    replace hq' : Heap.SameBut (n + 5) q q' := hq'
    refine hE q' e (fun b o hb x => ?_) ⟨oe, (hq'.2 e hez).trans hoe, hce⟩
    simp only [List.mem_cons, List.not_mem_nil, or_false, not_or] at hb
    refine (hq'.2 b hb.2.2.2.2).trans (hq b o ?_ ((kg b hb.2.2.2.2 hb.2.2.1 hb.2.2.2.1).trans x))
    rcases hy2 with rfl | rfl
    · exact hb.1
    · exact hb.2.2.1
  show wpAny _ _ (Builtin.SmallTypes.nextOf (.ref (n + 2)) >>= _) _ _ ⟨g0, g, d, tk0, os⟩
  have L1 : g0.IsList l1 xs := hl1.at fun o e => (k0 l1 (by omega)).trans e
  have I1 : g0.IsListIter (n + 2) l1 i := hi1.at fun o e => (k0 (n + 2) (by omega)).trans e
  cases hxx : xs[i]? with
  | none =>
    refine wpAny_bind (wpAny_nextOf_list_end (s := ⟨g0, g, d, tk0, os⟩) hh I1 L1 hxx fun q e hq he => ?_)
    exact fin g0 q e (n + 2) (by omega) hz0 (fun b b1 _ _ => k0 b b1) (.inr rfl) hq he
  | some x =>
    have hy : ys[i]? = none := hx.resolve_left (by rw [hxx]; exact fun z => nomatch z)
    refine wpAny_bind (wpAny_nextOf_list_item I1 L1 hxx fun p1 hj1 hs1 => wpAny_pure ?_)
    replace hs1 : Heap.SameBut (n + 2) g0 p1 := hs1
    have k1 : ∀ b : Nat, b ≠ n + 5 → b ≠ n + 2 → p1.get? b = hp.get? b := fun b hb hb2 => (hs1.2 b hb2).trans (k0 b hb)
    have hU1 : IsPair p1 (n + 4) a b := (k1 (n + 4) (by omega) (by omega)).trans hTO
    refine wpAny_bind (wpAny_seqItems (s := ⟨p1, g, d, tk0, os⟩) hU1 rfl ?_)
    refine wpAny_bind (wpAny_updateSeq_pair (s := ⟨p1, g, d, tk0, os⟩) hU1 fun g1 hT1 hs2 => ?_)
    replace hs2 : Heap.SameBut (n + 4) p1 g1 := hs2
    have k2 : ∀ b : Nat, b ≠ n + 5 → b ≠ n + 2 → b ≠ n + 4 → g1.get? b = hp.get? b := fun b hb hb2 hb3 => (hs2.2 b hb3).trans (k1 b hb hb2)
    refine wpAny_bind (wpAny_letGo (wpAny_pure ?_))
    refine wpAny_bind (wpAny_bind (wpAny_onRaise ?_))
    show wpAny _ _ (Builtin.SmallTypes.nextOf (.ref (n + 1)) >>= _) _ _ ⟨g1, g, d, tk0, os⟩
    refine wpAny_bind (sum_end (s := ⟨g1, g, d, tk0, os⟩) (a := n + 1) (it := n) (l := l2) hh ((k2 (n + 1) (by omega) (by omega) (by omega)).trans hA) (hi2.at fun o e => (k2 n (by omega) (by omega) (by omega)).trans e)
      (hl2.at fun o e => (k2 l2 (by omega) (by omega) (by omega)).trans e) hy fun q e hq he => ?_)
    refine fin g1 q e n (by omega) ?_ k2 (.inl rfl) hq he
    exact (hs2.2 (n + 5) (by show (n + 5 : Nat) ≠ n + 4; omega)).trans ((hs1.2 (n + 5) (by show (n + 5 : Nat) ≠ n + 2; omega)).trans hz0)
theorem py_item {x : Value} {k : Tok} {Q : Option Value → Shared → Prop} (st : ZSt l1 l2 n ns i s.heap) (h1 : l1 < n) (h2 : l2 < n) (hl1 : s.heap.IsList l1 xs) (hl2 : s.heap.IsList l2 ys) (hx : xs[i]? = some x) (hy : ys[i]? = some (.int (ns.getD i 0) k))
    (hQ : ∀ h' tk t, IsZip h' (n + 5) (n + 3) (n + 4) (rawInt s.heap.objs.size) → IsPair h' (n + 4) x (.int (smv ns (i + 1)) t) → h'.IsListIter (n + 2) l1 (i + 1) → h'.IsListIter n l2 (i + 1) → IsA h' (n + 1) n .none (.int (smv ns (i + 1)) t) → IsPair h' s.heap.objs.size x (.int (smv ns (i + 1)) t) →
      Kept [n, n + 1, n + 2, n + 4, n + 5] s.heap h' → Q (some (.ref s.heap.objs.size)) { s with heap := h', toks := tk }) : wpAny (model prog w) A (pyNext (.ref (n + 5))) Q E s := by
  have hT : s.TypeIs (.ref (n + 5)) "zip" := ⟨_, st.1, rfl⟩
  unfold pyNext
  exact wpAny_bind (wpAny_attempt (wpAny_callSpecial?_slot (name := Str.ofString "__next__") hT F.slot_zip_next (wpAny_call_entry F.slot_zip_next hT F.entry_zip_next
    (zip_item st h1 h2 hl1 hl2 hx hy fun h' tk t b1 b2 b3 b4 b5 b6 b7 => wpAny_pure (hQ h' tk t b1 b2 b3 b4 b5 b6 b7)) (F.args_zip_next_1 _))))
theorem py_end {Q : Option Value → Shared → Prop} (hh : A.handled = none) (st : ZSt l1 l2 n ns i s.heap) (h1 : l1 < n) (h2 : l2 < n) (hl1 : s.heap.IsList l1 xs) (hl2 : s.heap.IsList l2 ys) (hx : xs[i]? = none ∨ ys[i]? = none)
    (hQ : ∀ h', Kept [n, n + 1, n + 2, n + 4, n + 5] s.heap h' → Q none { s with heap := h' }) : wpAny (model prog w) A (pyNext (.ref (n + 5))) Q E s := by
  have hT : s.TypeIs (.ref (n + 5)) "zip" := ⟨_, st.1, rfl⟩
  unfold pyNext
  refine wpAny_bind (wpAny_attempt (wpAny_callSpecial?_slot (name := Str.ofString "__next__") hT F.slot_zip_next (wpAny_call_entry F.slot_zip_next hT F.entry_zip_next
    (zip_end (A := A.in1) hh st h1 h2 hl1 hl2 hx fun h' e hk he => ?_) (F.args_zip_next_1 _))))
  obtain ⟨o, ho, hc⟩ := he
  refine wpAny_bind (wpAny_isInstance (T := "StopIteration") (b := true) ⟨o, ho, hc⟩ isSubtype_stop ?_)
  exact wpAny_pure (hQ _ hk)
end
end Acc
namespace FL
open PySem PySem.Spec PyProof.Rows L2
/-- the list at a as it stands, beside the running sums of the list at b -/
def ItA (K : PySem.W.Frag) (a b : Addr) (ns : List Int) : It :=
  ⟨fun i H => ∃ (xs : List V) (x : V), SqL K H a xs ∧ SqL K H b (ns.map V.int) ∧ xs[i]? = some x ∧ i < ns.length,
    fun i H v H' => ∃ T x, v = .ref T ∧ H T = none ∧ H' = upd H T (.tup [x, .int (Acc.smv ns (i + 1))]) ∧ (∀ xs, SqL K H a xs → xs[i]? = some x),
    fun i H => ∃ xs : List V, SqL K H a xs ∧ SqL K H b (ns.map V.int) ∧ (xs.length ≤ i ∨ ns.length ≤ i)⟩
theorem turn_acc {P : Program} {w : World} {K : PySem.W.Frag} {elts : List Expr} {kk : Nat} {tpos : Pos} {a b n : Nat} {ns : List Int} (ha : a < n) (hb : b < n) :
    Turn P w K (.Tuple elts kk tpos) (ItA K a b ns) [n, n + 1, n + 2, n + 3, n + 4, n + 5] (n + 5) (fun i h => Acc.ZSt a b n ns i h) where
  mem := by simp
  obj := fun i h st c hc => by
    obtain ⟨hz, hTI, ⟨x, y, hTO⟩, ⟨o1, e1, _, d1⟩, ⟨o2, e2, _, d2⟩, k, hA⟩ := st
    simp only [List.mem_cons, List.not_mem_nil, or_false] at hc
    rcases hc with q | q | q | q | q | q
    · rw [q]; exact ⟨o2, e2, fun v q => by rw [d2] at q; cases q⟩
    · rw [q]; exact ⟨_, hA, fun v q => nomatch q⟩
    · rw [q]; exact ⟨o1, e1, fun v q => by rw [d1] at q; cases q⟩
    · rw [q]; exact ⟨_, hTI, fun v q => nomatch q⟩
    · rw [q]; exact ⟨_, hTO, fun v q => nomatch q⟩
    · rw [q]; exact ⟨_, hz, fun v q => nomatch q⟩
  keep := fun i h h' st k => by
    obtain ⟨hz, hTI, ⟨x, y, hTO⟩, h1, h2, t, hA⟩ := st
    exact ⟨k (n + 5) (by simp) _ hz, k (n + 3) (by simp) _ hTI, ⟨x, y, k (n + 4) (by simp) _ hTO⟩, h1.at fun o q => k (n + 2) (by simp) o q, h2.at fun o q => k n (by simp) o q, t, k (n + 1) (by simp) _ hA⟩
  item := by
    intro X hP hw hK hc i pins s σ H E I hf st hg
    subst hP hw hK
    obtain ⟨xs, x, hqx, hqy, hx, hi⟩ := hg
    obtain ⟨its, rv, p, _⟩ := I.list hqx
    obtain ⟨its2, rv2, p2, _⟩ := I.list hqy
    obtain ⟨u, hu, ru⟩ := rv.get hx
    obtain ⟨u2, hu2, ru2⟩ := rv2.get (x := .int (ns.getD i 0)) (i := i) (by simp [hi])
    obtain ⟨k, rfl⟩ := ru2
    have hzl : (n + 5 : Nat) < s.heap.objs.size := Heap.lt_size st.1
    have st0 := st
    refine Acc.py_item st ha hb p.isList p2.isList (x := u) (by simpa using hu) (by simpa using hu2) fun h' tk t z' TO' h1' h2' hA' hT hk => ?_
    refine ⟨_, rfl, wpAny_letOwnedTupleGo_zip (s := { s with heap := h', toks := tk }) z' fun h'' z'' sb => ?_⟩
    replace sb : Heap.SameBut (n + 5) h' h'' := sb
    have hT2 : h''.get? s.heap.objs.size = some { cls := .type "tuple", data := .seq #[u, .int (Acc.smv ns (i + 1)) t] } := (sb.2 _ (Nat.ne_of_gt hzl)).trans hT
    have new : ObjOk X.prog X.w (upd H s.heap.objs.size (.tup [x, .int (Acc.smv ns (i + 1))])) h'' s.heap.objs.size (.tup [x, .int (Acc.smv ns (i + 1))]) :=
      ⟨by show 2 ≤ sizeLine; decide, [u, .int (Acc.smv ns (i + 1)) t], .cons ru (.cons ⟨_, rfl⟩ .nil), ⟨_, hT2, rfl, _, rfl⟩⟩
    have kp : ∀ c o, c ∉ [n, n + 1, n + 2, n + 3, n + 4, n + 5] → s.heap.get? c = some o → h''.get? c = some o := fun c o hb q => by
      simp only [List.mem_cons, List.not_mem_nil, or_false, not_or] at hb
      exact (sb.2 c hb.2.2.2.2.2).trans (hk c o (by simp [hb]) q)
    have I1 : Inv X pins σ (upd H s.heap.objs.size (.tup [x, .int (Acc.smv ns (i + 1))])) { s with heap := h'', toks := tk } := I.turnedNew (t' := tk) (ch := [n, n + 1, n + 2, n + 3, n + 4, n + 5]) kp hf (Nat.le_refl _) new
    refine ⟨.ref s.heap.objs.size, _, I1, rfl, ⟨_, x, rfl, I.hok.fresh (Nat.le_refl _), rfl, fun l hl => by rw [I.list_inj hl hqx]; exact hx⟩, ⟨z'', ?_, ⟨u, .int (Acc.smv ns (i + 1)) t, ?_⟩, ?_, ?_, t, ?_⟩, fun c hcm => ?_⟩
    · exact (sb.2 (n + 3) (by show (n + 3 : Nat) ≠ n + 5; omega)).trans (hk (n + 3) _ (by simp) st.2.1)
    · exact (sb.2 (n + 4) (by show (n + 4 : Nat) ≠ n + 5; omega)).trans TO'
    · exact h1'.at fun o q => (sb.2 (n + 2) (by show (n + 2 : Nat) ≠ n + 5; omega)).trans q
    · exact h2'.at fun o q => (sb.2 n (by show (n : Nat) ≠ n + 5; omega)).trans q
    · exact (sb.2 (n + 1) (by show (n + 1 : Nat) ≠ n + 5; omega)).trans hA'
    · have hlt : (c : Nat) < s.heap.objs.size := by
        have hc' := hcm
        simp only [List.mem_cons, List.not_mem_nil, or_false] at hc'
        have zl : (n + 5 : Nat) < s.heap.objs.size := hzl
        rcases hc' with q | q | q | q | q | q <;> rw [q] <;> refine Nat.lt_of_le_of_lt ?_ zl <;> first | exact Nat.le_refl _ | exact Nat.le_add_right _ _ | (show (_ : Nat) ≤ _; omega)
      rw [upd_ne (Nat.ne_of_lt hlt)]
      exact (hf c hcm).1
  done := by
    intro X hP hw hK hc i pins s σ H E I hf st hg
    subst hP hw hK
    obtain ⟨xs, hqx, hqy, hend⟩ := hg
    obtain ⟨its, rv, p, _⟩ := I.list hqx
    obtain ⟨its2, rv2, p2, _⟩ := I.list hqy
    have l1 := rv.length
    have l2 := rv2.length
    rw [List.length_map] at l2
    have he : its.toArray[i]? = none ∨ its2.toArray[i]? = none := by
      rcases hend with q | q
      · exact .inl (by simp; omega)
      · exact .inr (by simp; omega)
    refine Acc.py_end (I.ok.hd hc) st ha hb p.isList p2.isList he fun h' hk => ⟨rfl, I.turnedL (t' := s.toks) (ch := [n, n + 1, n + 2, n + 3, n + 4, n + 5]) (fun c o hb q => ?_) hf⟩
    simp only [List.mem_cons, List.not_mem_nil, or_false, not_or] at hb
    exact hk c o (by simp [hb]) q
  self := fun A i s Q E st h => wpAny_pyIter_zip st.1 h
end FL

set_option Elab.async false
set_option linter.all false
set_option maxRecDepth 100000
set_option maxHeartbeats 2000000
namespace FL
open PySem PySem.Spec PyProof.Rows L2
/-- as PE, and a mark has been given out behind it -/
structure PEt (X : Cx) (e : Expr) (t : TE) : Prop where
  run : ∀ (pins : List (Addr × Obj)) (s : Shared) (σ : L2.St) (H : Hp) (Q : VK), Inv X pins σ H s → t σ H Q → wpAny (model X.prog X.w) X.A (eval e X.env) (fun u s' => EP X pins σ Q u s' ∧ 1 ≤ s'.toks) X.xe s
theorem PEt.weak {X : Cx} {e : Expr} {t u : TE} (h : PEt X e t) (w : ∀ σ H Q, u σ H Q → t σ H Q) : PEt X e u := ⟨fun pins s σ H Q I q => h.run pins s σ H Q I (w σ H Q q)⟩
section
variable {X : Cx} {c : Ct}
/-- a[-i] -/
theorem pet_last {a : Expr} {i : Int} {j : Nat} {p q pos : Pos} {ta : TE} {r : R2} (hr : IxR X r) (ha : PE X a ta) (hs : PlainIx (.UnaryOp .USub (.Constant (.int i) j p) q)) : PEt X (.Subscript a (.UnaryOp .USub (.Constant (.int i) j p) q) pos) (tOp r ta (tC (.int (-i)))) := by
  refine ⟨fun pins s σ H Q I h => ?_⟩
  refine Subscript_ (thn (ha.run pins s σ H _ I h) fun v s1 ⟨x, H1, I1, r1, q1⟩ => ?_)
  refine UnaryOp_ (thn ((pe_int (X := X)).run pins s1 σ H1 (fun y H2 => y = .int i ∧ H2 = H1) I1 ⟨rfl, rfl⟩) fun u s2 ⟨y, H2, I2, r2, e1, e2⟩ => ?_)
  subst e1 e2
  obtain ⟨t, rfl⟩ := r2
  refine PySem.P.neg_int ?_
  have I3 : Inv X pins σ H2 { s2 with toks := s2.toks + 1 } := I2.tok _
  have hle : 1 ≤ ({ s2 with toks := s2.toks + 1 } : Shared).toks := Nat.le_add_left 1 _
  exact wpAny_mono (any_toks hle (hr _ _ pins _ σ H2 x (.int (-i)) v _ Q I3 r1 ⟨_, rfl⟩ q1 (hs _ _))) (fun _ _ z => z) fun _ _ z => z.1
/-- .. as a value of the layer -/
theorem ft_last {a : Expr} {fa : M Hd} {i : Int} {j : Nat} {p q pos : Pos} (ha : FH X c a fa) (hs : PlainIx (.UnaryOp .USub (.Constant (.int i) j p) q)) : PEt X (.Subscript a (.UnaryOp .USub (.Constant (.int i) j p) q) pos) (tM X.K c (m2H gIx fa (mV (m1 gNeg (mC (.int i)))))) :=
  (pet_last ix_seq ha hs).weak fun σ H Q h => by
    obtain ⟨S, env, d, e', E, q1, kk⟩ := t2H (r := rIx X.K) o2_ix σ H Q h
    refine ⟨S, env, d, e', E, q1, fun S1 H1 v E1 s1 r1 => ?_⟩
    obtain ⟨S2, env2, d2, e2', E2, q2, k2⟩ := kk S1 H1 v E1 s1 r1
    cases q2
    exact k2 S2 H1 (.int (-i)) E2 (Same.refl _) (.int _)

/-- an element a + b: a marked int -/
theorem pek_add {a b : Expr} {ta tb : TE} {pos : Pos} (ha : PE X a ta) (hb : PE X b tb) {pins : List (Addr × Obj)} {s : Shared} {σ : L2.St} {H : Hp} {R : Int → Hp → Prop} (I : Inv X pins σ H s) (h1 : 1 ≤ s.toks)
    (h : ta σ H fun x H1 => tb σ H1 fun y H2 => ∃ i j, x = .int i ∧ y = .int j ∧ R (i + j) H2) :
    wpAny (model X.prog X.w) X.A (eval (.BinOp a .Add b pos) X.env) (fun u s' => ∃ z k H', u = .int z k ∧ k ≠ 0 ∧ Inv X pins σ H' s' ∧ R z H' ∧ 1 ≤ s'.toks) X.xe s := by
  refine wpAny_BinOp (wpAny_mono (any_toks h1 (ha.run pins s σ H _ I h)) (fun v s1 q => ?_) fun _ _ z => z.1)
  obtain ⟨⟨x, H1, I1, r1, q1⟩, t1⟩ := q
  refine wpAny_mono (any_toks t1 (hb.run pins s1 σ H1 _ I1 q1)) (fun u s2 q => ?_) fun _ _ z => z.1
  obtain ⟨⟨y, H2, I2, r2, i, j, rfl, rfl, q2⟩, t2⟩ := q
  obtain ⟨k1, rfl⟩ := r1
  obtain ⟨k2, rfl⟩ := r2
  refine PySem.AutoIntOps.add_0 ?_
  exact ⟨i + j, s2.toks, H2, rfl, Nat.ne_of_gt t2, I2.tok _, q2, Nat.le_succ_of_le t2⟩
end
/-! ## the iterable zip(a, accumulate(b)) -/
def iZacc (K : PySem.W.Frag) (te te2 : TE) : L2.St → Hp → (It → Hp → Prop) → Prop := fun σ H R => te σ H fun v H1 => te2 σ H1 fun u H2 => ∃ a b xs ns, v = .ref a ∧ u = .ref b ∧ SqL K H2 a xs ∧ SqL K H2 b (ns.map V.int) ∧ R (ItA K a b ns) H2
theorem pi_zacc {X : Cx} {e e2 : Expr} {te te2 : TE} {p p2 pos q tpos : Pos} {elts : List Expr} {kk : Nat} (hg : Gl X "zip") (hm : X.mg "zip" = none) (hg2 : Gl X "accumulate") (hm2 : X.mg "accumulate" = some (.type Acc.aT)) (he : PEt X e te) (he2 : PE X e2 te2)
    (na : starEach [e, .Call (.Name "accumulate" p2) [e2] [] q] X.env = (false, eval e X.env) :: starEach [.Call (.Name "accumulate" p2) [e2] [] q] X.env := by rfl)
    (nb : starEach [.Call (.Name "accumulate" p2) [e2] [] q] X.env = (false, eval (.Call (.Name "accumulate" p2) [e2] [] q) X.env) :: starEach [] X.env := by rfl)
    (nc : starEach [e2] X.env = (false, eval e2 X.env) :: starEach [] X.env := by rfl) (nd : (backTo q (starEach ([] : List Expr) X.env)).any (·.1) = false := by rfl)
    (ne : (backTo pos (starEach [.Call (.Name "accumulate" p2) [e2] [] q] X.env)).any (·.1) = false := by rfl) {pins : List (Addr × Obj)} {s : Shared} {σ : L2.St} {H : Hp} {R : It → Hp → Prop} (I : Inv X pins σ H s) (h : iZacc X.K te te2 σ H R) :
    wpAny (model X.prog X.w) X.A (eval (.Call (.Name "zip" p) [e, .Call (.Name "accumulate" p2) [e2] [] q] [] pos) X.env) (fun v s1 => wpAny (model X.prog X.w) X.A (pyIter v) (fun itv s2 => PIE X pins σ (.Tuple elts kk tpos) R itv s2 ∧ 1 ≤ s2.toks) X.xe s1) X.xe s := by
  refine Call_ (ld_blt I hg hm PyProof.Rows.boot_zip ?_)
  refine PyProof.Rows.callWith_type1 (PyProof.Rows.args_cons (thn (he.run pins s σ H _ I h) fun v s1 q1 => ?_) na) na ne
  obtain ⟨⟨x, H1, I1, r1, q1⟩, t1⟩ := q1
  refine PyProof.Rows.args_cons (Call_ (ld_glob I1 hg2 hm2 ?_)) nb
  refine PyProof.Rows.callWith_type1 (PyProof.Rows.args_cons (wpAny_mono (any_toks t1 (he2.run pins s1 σ H1 _ I1 q1)) (fun u s2 q2 => ?_) fun _ _ z => z.1) nc) nc nd
  obtain ⟨⟨y, H2, I2, r2, a, b, xs, ns, rfl, rfl, hqa, hqb, k⟩, t2⟩ := q2
  cases r1
  cases r2
  refine PyProof.Rows.args_nil ?_
  obtain ⟨its, rv, pa, _⟩ := I2.list hqa
  obtain ⟨its2, rv2, pb, _⟩ := I2.list hqb
  have la : (a : Nat) < s2.heap.objs.size := pa.lt
  have lb : (b : Nat) < s2.heap.objs.size := pb.lt
  refine Acc.call_1 pb.isList fun h3 hit ha hsz kp => ?_
  refine PyProof.Rows.args_nil ?_
  refine Acc.call_zipA (s := { s2 with heap := h3 }) (pa.isList.at fun o e => kp a o e) ha fun h4 hz hTI hTO hi hsz2 kp2 => wpAny_pyIter_zip hz ?_
  have I4 : Inv X pins σ H2 { s2 with heap := h4 } := I2.kept (t' := s2.toks) fun c o e => kp2 c o (kp c o e)
  replace hsz : h3.objs.size = s2.heap.objs.size + 2 := hsz
  have e0 : ({ s2 with heap := h3 } : Shared).heap.objs.size = s2.heap.objs.size + 2 := hsz
  rw [e0] at hz hTI hTO hi ⊢
  refine ⟨⟨s2.heap.objs.size + 5, _, _, _, H2, rfl, I4, turn_acc (n := s2.heap.objs.size) la lb, ⟨hz, hTI, ⟨_, _, hTO⟩, hi, hit.at fun o e => kp2 _ o e, 0, kp2 _ _ ha⟩, fun c hcm => ?_, k⟩, t2⟩
  have hle : s2.heap.objs.size ≤ c := by
    simp only [List.mem_cons, List.not_mem_nil, or_false] at hcm
    rcases hcm with z | z | z | z | z | z <;> rw [z] <;> first | exact Nat.le_refl _ | exact Nat.le_add_right _ _
  exact I2.fpOk hle (I2.hok.fresh hle)
end FL

set_option Elab.async false
set_option linter.all false
set_option maxRecDepth 100000
set_option maxHeartbeats 4000000
namespace FL
open PySem PySem.Spec PyProof.Rows L2
/-- each with the running sum beside it -/
def zipSums (ns ms : List Int) : List Int := (List.range (min ns.length ms.length)).map fun i => ns.getD i 0 + Acc.smv ms (i + 1)
theorem zipSums_len (ns ms : List Int) : (zipSums ns ms).length = min ns.length ms.length := by simp [zipSums]
theorem zipSums_take {ns ms : List Int} {i : Nat} (h : i < min ns.length ms.length) : (zipSums ns ms).take (i + 1) = (zipSums ns ms).take i ++ [ns.getD i 0 + Acc.smv ms (i + 1)] := by
  rw [List.take_add_one]
  have e : (zipSums ns ms)[i]? = some (ns.getD i 0 + Acc.smv ms (i + 1)) := by
    unfold zipSums
    rw [List.getElem?_map, List.getElem?_range h]
    rfl
  rw [e]
  rfl
theorem tokO_push {its : Array Value} {zs : List Int} {z : Int} {k : Tok} (h : Acc.Tks zs its) (hk : k ≠ 0) : Acc.Tks (zs ++ [z]) (its.push (.int z k)) := by
  obtain ⟨hs, hi⟩ := h
  refine ⟨by simp [hs], fun i hlt => ?_⟩
  rw [List.length_append] at hlt
  by_cases hc : i < zs.length
  · obtain ⟨k', hk', e⟩ := hi i hc
    refine ⟨k', hk', ?_⟩
    rw [Array.getElem?_push_lt (by omega : i < its.size)]
    rw [Array.getElem?_eq_getElem (by omega : i < its.size)] at e
    rw [e]
    simp [List.getD_eq_getElem?_getD, List.getElem?_append_left hc]
  · have : i = zs.length := by
      have hl : i < zs.length + 1 := by simpa using hlt
      omega
    subst this
    refine ⟨k, hk, ?_⟩
    have e1 : (zs ++ [z]).getD zs.length 0 = z := by simp [List.getD_eq_getElem?_getD]
    rw [e1, ← hs]
    exact Array.getElem?_push_size
/-- y = [a + b for a, b in zip(e, accumulate(e2))]: the new list locked, its marks known -/
def tSums (K : PySem.W.Frag) (te te2 : TE) (i : Nat) : TS := fun Dn σ H => iZacc K te te2 σ H fun J H2 => ∃ a b ns ms, J = ItA K a b ms ∧ SqL K H2 a (ns.map V.int) ∧ SqL K H2 b (ms.map V.int) ∧ ns.length ≤ 1000000 ∧
  ∀ L o H3, Same H2 H3 → H2 L = none → H3 L = some (.frz o (.lst ((zipSums ns ms).map V.int))) → TokO o (zipSums ns ms) → Dn.nx (σ.set i (some (.ref L))) H3
section
variable {X : Cx}
/-- the names of the block -/
structure Blk2 (X : Cx) (scope : Scope) (xb xg : Str) (ib ig : Nat) (qb qg tpos pb pg : Pos) (kk : Nat) : Prop where
  ok : BlkOk X.N X.env.scope scope [(xb, ib), (xg, ig)]
  ne : ib ≠ ig
  tg : ∀ (s : Shared) (H : Hp) (C : Addr) (cl : List (Str × Addr)) (fp : List Addr), PG (X.blk s H scope (compEnvC scope cl C X.env) fp) (.Tuple [.Name xb qb, .Name xg qg] kk tpos) (gTup X.K 2 (gCons (gName ib) (gCons (gName ig) gNil)))
  vb : ∀ (s : Shared) (H : Hp) (C : Addr) (cl : List (Str × Addr)) (fp : List Addr), PE (X.blk s H scope (compEnvC scope cl C X.env) fp) (.Name xb pb) (tVar ib)
  vg : ∀ (s : Shared) (H : Hp) (C : Addr) (cl : List (Str × Addr)) (fp : List Addr), PE (X.blk s H scope (compEnvC scope cl C X.env) fp) (.Name xg pg) (tVar ig)
theorem ps_sums {i ib ig : Nat} {y xb xg : Str} {e e2 : Expr} {te te2 : TE} {scope : Scope} {py qb qg tpos pb pg pz p p2 q zpos pos spos : Pos} {kk : Nat} (hc : X.calm = true) (hN : X.N.Nodup) (hy : X.N[i]? = some y) (hyl : X.env.scope.names.lookup y = some .local)
    (hsw : swapsWith (.ListComp (.BinOp (.Name xb pb) .Add (.Name xg pg) pz) [⟨.Tuple [.Name xb qb, .Name xg qg] kk tpos, .Call (.Name "zip" p) [e, .Call (.Name "accumulate" p2) [e2] [] q] [] zpos, [], 0⟩] scope pos) (some (.Name y py)) spos.line X.env = pure true)
    (B : Blk2 X scope xb xg ib ig qb qg tpos pb pg kk) (hg : Gl X "zip") (hm : X.mg "zip" = none) (hg2 : Gl X "accumulate") (hm2 : X.mg "accumulate" = some (.type Acc.aT)) (he : PEt X e te) (he2 : PE X e2 te2)
    (na : starEach [e, .Call (.Name "accumulate" p2) [e2] [] q] X.env = (false, eval e X.env) :: starEach [.Call (.Name "accumulate" p2) [e2] [] q] X.env := by rfl)
    (nb : starEach [.Call (.Name "accumulate" p2) [e2] [] q] X.env = (false, eval (.Call (.Name "accumulate" p2) [e2] [] q) X.env) :: starEach [] X.env := by rfl)
    (nc : starEach [e2] X.env = (false, eval e2 X.env) :: starEach [] X.env := by rfl) (nd : (backTo q (starEach ([] : List Expr) X.env)).any (·.1) = false := by rfl)
    (ne : (backTo zpos (starEach [.Call (.Name "accumulate" p2) [e2] [] q] X.env)).any (·.1) = false := by rfl) (hs : ∀ x, foldedSetIterable (.Call (.Name "zip" p) [e, .Call (.Name "accumulate" p2) [e2] [] q] [] zpos) X.env x = pure x := by intro _; rfl) :
    PS X (.Assign [.Name y py] (.ListComp (.BinOp (.Name xb pb) .Add (.Name xg pg) pz) [⟨.Tuple [.Name xb qb, .Name xg qg] kk tpos, .Call (.Name "zip" p) [e, .Call (.Name "accumulate" p2) [e2] [] q] [] zpos, [], 0⟩] scope pos) spos) (tSums X.K te te2 i) := by
  refine ⟨fun pins s σ H Dn I h => ?_⟩
  obtain ⟨ok, hbg, htg, hvb, hvg⟩ := B
  rw [exec_Assign_Name_used _ _ _ _ hsw]
  refine wpAny_bind (wpAny_standAt (wpAny_bind ?_))
  show wpAny _ X.A (do let _ ← comprehension (.ListComp (.BinOp (.Name xb pb) .Add (.Name xg pg) pz) [⟨.Tuple [.Name xb qb, .Name xg qg] kk tpos, .Call (.Name "zip" p) [e, .Call (.Name "accumulate" p2) [e2] [] q] [] zpos, [], 0⟩] scope pos) scope X.env (firstIterPos [⟨.Tuple [.Name xb qb, .Name xg qg] kk tpos, .Call (.Name "zip" p) [e, .Call (.Name "accumulate" p2) [e2] [] q] [] zpos, [], 0⟩] pos) (newList []) false (eval (.Call (.Name "zip" p) [e, .Call (.Name "accumulate" p2) [e2] [] q] [] zpos) X.env) (some (assign (.Name y py) X.env))) _ _ s
  refine wpAny_bind (thn (Q := fun _ s' => SP X pins Dn .next s') ?_ fun _ s' hq => wpAny_pure (wpAny_pure hq))
  have hfree : ∀ y ∈ scope.names, y.2 = .free → ∃ c, X.env.cells.lookup y.1 = some c := fun y hy e => by
    rcases ok.free y hy e with k | k
    · exact I.ok.has _ (.inl k)
    · exact I.ok.has _ (.inr k)
  refine wpAny_comprehension_free (use := some (assign (.Name y py) X.env)) rfl hs (closure_ok hfree) ok.kind (fun y hy e => by rw [ok.uniq y hy, e]) (thn (pi_zacc (elts := [.Name xb qb, .Name xg qg]) (kk := kk) (tpos := tpos) hg hm hg2 hm2 he he2 na nb nc nd ne I h) fun xv s1 hx => thn hx fun itv s2 ⟨h2, t2⟩ => ?_)
  obtain ⟨it, fp, tn, J, H2, e, I2, T, st2, f2, a, b, ns, ms, rfl, hqa, hqb, hlen, kfin⟩ := h2
  subst e
  generalize hzs : zipSums ns ms = zs at kfin
  refine wpAny_newObj_type (newEnv_comp ?_) (by show 0 ≤ sizeLine; decide)
  generalize hD : s2.heap.objs.size = D
  have hDn : H2 D = none := I2.hok.fresh (Nat.le_of_eq hD)
  generalize hs3 : ({ s2 with heap := s2.heap.push { cls := .type "list", data := .seq ([] : List Value).toArray } } : Shared) = s3
  have h3 : s3.heap = s2.heap.push { cls := .type "list", data := .seq ([] : List Value).toArray } := by rw [← hs3]
  have t3 : 1 ≤ s3.toks := by rw [← hs3]; exact t2
  have r3 : s3.heap.get? D = some { cls := .type "list", data := .seq #[] 0 } := by
    rw [h3, ← hD]
    exact Heap.get?_push_size _ rfl
  have I3 : Inv X pins σ (upd H2 D (.lst [])) s3 := by
    rw [← hs3]
    refine I2.laid (t' := s2.toks) (fun b o e => Heap.get?_push_of_some _ e) (Nat.le_of_eq hD) ⟨Nat.zero_le _, [], 0, .nil, ?_⟩
    rw [← hD]
    exact Heap.get?_push_size _ rfl
  have sz : ∀ b ∈ fp, b < s2.heap.objs.size := fun b hb => by
    obtain ⟨o, e, _⟩ := T.obj _ _ st2 b hb
    exact Heap.lt_size e
  have nD : ∀ b ∈ fp, b ≠ D := fun b hb => by rw [← hD]; exact Nat.ne_of_lt (sz b hb)
  have f3 : ∀ b ∈ fp, FpOk X pins (upd H2 D (.lst [])) b ∧ b < s3.heap.objs.size := fun b hb => by
    refine ⟨⟨?_, (f2 b hb).2⟩, by rw [h3, Heap.size_push]; exact Nat.lt_succ_of_lt (sz b hb)⟩
    rw [upd_ne (nD b hb)]
    exact (f2 b hb).1
  have st3 : tn 0 s3.heap := T.keep _ _ _ st2 fun b _ o e => by rw [h3]; exact Heap.get?_push_of_some _ e
  have I4 := block_start I3 ok hN f3
  have pgk := htg s3 (upd H2 D (.lst [])) s3.heap.objs.size (cellsFrom (s3.heap.objs.size + 1) scope.names (cloFrom X.env.cells scope.names [])) fp
  have pvb := hvb s3 (upd H2 D (.lst [])) s3.heap.objs.size (cellsFrom (s3.heap.objs.size + 1) scope.names (cloFrom X.env.cells scope.names [])) fp
  have pvg := hvg s3 (upd H2 D (.lst [])) s3.heap.objs.size (cellsFrom (s3.heap.objs.size + 1) scope.names (cloFrom X.env.cells scope.names [])) fp
  have tup : ∀ b ∈ fp, H2 b = none := fun b hb => (f2 b hb).1
  show codeAny _ _ (.compStart (.ListComp (.BinOp (.Name xb pb) .Add (.Name xg pg) pz) [⟨.Tuple [.Name xb qb, .Name xg qg] kk tpos, .Call (.Name "zip" p) [e, .Call (.Name "accumulate" p2) [e2] [] q] [] zpos, [], 0⟩] scope pos) 0 (.ref it) (.ref D)
    (compEnvC scope (cellsFrom (s3.heap.objs.size + 1) scope.names (cloFrom X.env.cells scope.names [])) s3.heap.objs.size X.env)) (compPost (model X.prog X.w) X.A X.xe (some (assign (.Name y py) X.env)) (fun _ s' => SP X pins Dn .next s') (.ref D) s3.heap.objs.size) { s3 with heap := pushCells (s3.heap.push { cls := .type "dict", data := .dict #[] }) scope.names }
  have nfp : ∀ b ∈ fp, (upd H2 D (.lst [])) b = none := fun b hb => (f3 b hb).1.1
  generalize hce : compEnvC scope (cellsFrom (s3.heap.objs.size + 1) scope.names (cloFrom X.env.cells scope.names [])) s3.heap.objs.size X.env = ce at I4 pgk pvb pvg ⊢
  have cL : ce.locals = s3.heap.objs.size := by subst hce; rfl
  have hH30 : (upd H2 D (.lst [])) D = some (.lst []) := upd_same
  have sH3 : Same H2 (upd H2 D (.lst [])) := fun c o q => by rw [upd_ne (fun z => by subst z; rw [hDn] at q; cases q)]; exact q
  generalize hH3 : upd H2 D (.lst []) = H3 at I3 I4 pgk pvb pvg nfp f3 hH30 sH3
  generalize hs4 : ({ s3 with heap := pushCells (s3.heap.push { cls := .type "dict", data := .dict #[] }) scope.names } : Shared) = s4 at I4 ⊢
  have st4 : tn 0 s4.heap := T.keep _ _ _ st3 fun b _ o e => by rw [← hs4]; exact pushCells_keeps _ _ _ _ (Heap.get?_push_of_some _ e)
  have r4 : s4.heap.get? D = some { cls := .type "list", data := .seq #[] 0 } := by rw [← hs4]; exact pushCells_keeps _ _ _ _ (Heap.get?_push_of_some _ r3)
  have t4 : 1 ≤ s4.toks := by rw [← hs4]; exact t3
  have noF : ∀ o' u', (X.blk s3 H3 scope ce fp).H_0 D ≠ some (.frz o' u') := fun o' u' z => by
    have z' : H3 D = some (.frz o' u') := z
    rw [hH30] at z'
    cases z'
  have stat : ∀ {σ' : L2.St} {H' : Hp} {s' : Shared}, Inv (X.blk s3 H3 scope ce fp) [] σ' H' s' → (∀ b ∈ fp, H' b = none) → ∀ b ∈ fp, FpOk (X.blk s3 H3 scope ce fp) [] H' b := fun {σ' H' s'} I' hn b hb =>
    ⟨hn b hb, (I'.ok.exf b hb).1, I'.ok.exfs b hb, .inl hb, fun x c e => (I'.ok.exf b hb).2 x c e, fun p hp => absurd (show p ∈ ([] : List (Addr × Obj)) ++ [] from hp) (by simp)⟩
  have lN : σ.length = X.N.length := I.len
  have iB : X.N[ib]? = some xb := ok.ix (xb, ib) (by simp)
  have iG : X.N[ig]? = some xg := ok.ix (xg, ig) (by simp)
  have ltB : ib < σ.length := by rw [lN]; exact (List.getElem?_eq_some_iff.mp iB).1
  have ltG : ig < σ.length := by rw [lN]; exact (List.getElem?_eq_some_iff.mp iG).1
  have hvs : [((xb, ib) : Str × Nat), (xg, ig)].map (·.2) = [ib, ig] := rfl
  rw [hvs] at I4
  have zl : zs.length = min ns.length ms.length := by rw [← hzs]; exact zipSums_len ns ms
  -- a list that is looked at with its marks
  have look : ∀ {σ' : L2.St} {H' : Hp} {s' : Shared} {pl : List (Addr × Obj)} {acc : List V} {o : Obj}, Inv (X.blk s3 H3 scope ce fp) pl σ' H' s' → H' D = some (.lst acc) → s'.heap.get? D = some o → Inv (X.blk s3 H3 scope ce fp) pl σ' (upd H' D (.frz o (.lst acc))) s' := fun {σ' H' s' pl acc o} I' hd ho => by
    obtain ⟨od, IL⟩ := I'.lock hd trivial
    obtain ⟨g, _⟩ := (show ObjOk X.prog X.w (upd H' D (.frz od (.lst acc))) s'.heap D (.frz od (.lst acc)) from IL.hok D _ upd_same)
    rw [ho] at g
    cases g
    exact IL
  have loop : codeAny (model X.prog X.w) X.A (.compLoop (.ListComp (.BinOp (.Name xb pb) .Add (.Name xg pg) pz) [⟨.Tuple [.Name xb qb, .Name xg qg] kk tpos, .Call (.Name "zip" p) [e, .Call (.Name "accumulate" p2) [e2] [] q] [] zpos, [], 0⟩] scope pos) 0 (.ref it) (.ref D) ce)
      (compPost (model X.prog X.w) X.A X.xe (some (assign (.Name y py) X.env)) (fun _ s' => SP X pins Dn .next s') (.ref D) s3.heap.objs.size) s4 := by
    refine compLoop_any (fun n s' => ∃ i H' o, Inv (X.blk s3 H3 scope ce fp) [] (wipe σ [ib, ig]) H' s' ∧ tn i s'.heap ∧ (∀ b ∈ fp, H' b = none) ∧ n = zs.length - i ∧ i ≤ zs.length ∧ Same H2 H' ∧ H' D = some (.lst ((zs.take i).map V.int)) ∧ s'.heap.get? D = some o ∧ TokO o (zs.take i) ∧ 1 ≤ s'.toks) ?_ zs.length
      ⟨0, H3, _, I4, st4, nfp, rfl, Nat.zero_le _, sH3, by rw [List.take_zero]; exact hH30, r4, ⟨#[], 0, rfl, rfl, fun i hi => by simp at hi⟩, t4⟩
    rintro n s5 ⟨i', H5, o5, I5, st5, n5, rfl, hi5, sm5, d5, g5, tk5, t5⟩
    have I5L := look I5 d5 g5
    have n5L : ∀ b ∈ fp, (upd H5 D (.frz o5 (.lst ((zs.take i').map V.int)))) b = none := fun b hb => by rw [upd_ne (nD b hb)]; exact n5 b hb
    have sm5L : Same H2 (upd H5 D (.frz o5 (.lst ((zs.take i').map V.int)))) := fun c o q => by rw [upd_ne (fun z => by subst z; rw [hDn] at q; cases q)]; exact sm5 c o q
    generalize hHL : upd H5 D (.frz o5 (.lst ((zs.take i').map V.int))) = HL at I5L n5L sm5L
    have dL : HL D = some (.frz o5 (.lst ((zs.take i').map V.int))) := by rw [← hHL]; exact upd_same
    have qaL := sm5L.seq hqa
    have qbL := sm5L.seq hqb
    by_cases hlt : i' < zs.length
    · have hmin : i' < min ns.length ms.length := by rw [← zl]; exact hlt
      have hin : i' < ns.length := Nat.lt_of_lt_of_le hmin (Nat.min_le_left _ _)
      have him : i' < ms.length := Nat.lt_of_lt_of_le hmin (Nat.min_le_right _ _)
      have ti := T.item (X.blk s3 H3 scope ce fp) rfl rfl rfl hc i' [] s5 _ HL (fun _ _ => False) I5L (stat I5L n5L) st5 ⟨ns.map V.int, .int (ns.getD i' 0), qaL, qbL, by simp [hin], him⟩
      refine thnF (wpAny_mono (any_toks t5 ti) (fun _ _ z => z) fun _ _ z => z.1) fun r s6 ⟨⟨u, hr, h6⟩, t6⟩ => ?_
      subst hr
      refine thnF (wpAny_mono (any_toks t6 h6) (fun _ _ z => z) fun _ _ z => z.1) fun _ s7 ⟨⟨x, H7, I7, r7, y7, st7, n7⟩, t7⟩ => ?_
      obtain ⟨Tt, x0, rfl, hTn, rfl, hx0⟩ := y7
      have ex0 : x0 = .int (ns.getD i' 0) := by
        have z := hx0 _ qaL
        simp [hin] at z
        rw [← z]
        simp [List.getD_eq_getElem?_getD, hin]
      subst ex0
      have nTD : D ≠ Tt := fun z => by subst z; rw [dL] at hTn; cases hTn
      have I7' := I7.pinned (stat I7 n7) (T.obj _ _ st7)
      generalize hH7 : upd HL Tt (.tup [.int (ns.getD i' 0), .int (Acc.smv ms (i' + 1))]) = H7 at I7 I7' n7
      have d7 : H7 D = some (.frz o5 (.lst ((zs.take i').map V.int))) := by rw [← hH7, upd_ne nTD]; exact dL
      have sm7 : Same H2 H7 := fun c o q => by
        have z := sm5L c o q
        rw [← hH7, upd_ne (fun w => by subst w; rw [hTn] at z; cases z)]
        exact z
      have tg7 : gTup X.K 2 (gCons (gName ib) (gCons (gName ig) gNil)) (.ref Tt) (wipe σ [ib, ig]) H7 fun σ8 H8 => σ8 = ((wipe σ [ib, ig]).set ib (some (.int (ns.getD i' 0)))).set ig (some (.int (Acc.smv ms (i' + 1)))) ∧ H8 = H7 := by
        refine ⟨Tt, [.int (ns.getD i' 0), .int (Acc.smv ms (i' + 1))], rfl, .inl (.inl ?_), rfl, _, _, rfl, _, _, rfl, rfl, rfl, rfl⟩
        rw [← hH7]
        exact upd_same
      refine thnF (wpAny_mono (any_toks t7 (pgk.run _ s7 _ H7 (.ref Tt) u _ I7' r7 tg7)) (fun _ _ z => z) fun _ _ z => z.1) fun _ s8 ⟨⟨σ8, H8, I8, e8, eH8⟩, t8⟩ => ?_
      subst eH8
      refine wpAny_tests_nil ?_
      simp only [if_true]
      have lW : (wipe σ [ib, ig]).length = σ.length := wipe_length _ _
      have vB : σ8[ib]? = some (some (V.int (ns.getD i' 0))) := by
        rw [e8, List.getElem?_set_ne (Ne.symm hbg), List.getElem?_set_self (by rw [lW]; exact ltB)]
      have vG : σ8[ig]? = some (some (V.int (Acc.smv ms (i' + 1)))) := by
        rw [e8, List.getElem?_set_self (by rw [List.length_set, lW]; exact ltG)]
      have hw8 : wipe σ8 [ib, ig] = wipe σ [ib, ig] := by
        rw [e8, wipe_set (by simp), wipe_set (by simp), wipe_self fun _ h => h]
      refine thnF (pek_add pvb pvg I8 t8 (R := fun z H' => z = ns.getD i' 0 + Acc.smv ms (i' + 1) ∧ H' = H8) ⟨_, vB, _, vG, _, _, rfl, rfl, rfl, rfl⟩) fun zv s10 ⟨z, k, H10, ez, hk, I10, ⟨er, eH10⟩, t10⟩ => ?_
      subst ez eH10 er
      have I10u := I10.unlock d7 noF
      obtain ⟨g10, _⟩ := (show ObjOk X.prog X.w H10 s10.heap D (.frz o5 (.lst ((zs.take i').map V.int))) from I10.hok D _ d7)
      obtain ⟨its, nn, rfl, Tk⟩ := tk5
      have hsz : its.size ≤ sizeLine := by
        rw [Tk.1, List.length_take]
        exact Nat.le_trans (Nat.min_le_right _ _) (Nat.le_trans (by rw [zl]; exact Nat.min_le_left _ _) (Nat.le_trans hlen (by decide)))
      refine append_at (hsz := hsz) g10 fun h11 sb11 ho11 => ?_
      obtain ⟨_, its', n', rv', e'⟩ := (show ObjOk X.prog X.w (upd H10 D (.lst ((zs.take i').map V.int))) s10.heap D (.lst ((zs.take i').map V.int)) from I10u.hok D _ upd_same)
      have ei : its = its'.toArray := by
        rw [g10] at e'
        have z := Option.some.inj e'
        injection z with _ _ z3 _
        injection z3
      subst ei
      have htk : zs.take (i' + 1) = zs.take i' ++ [ns.getD i' 0 + Acc.smv ms (i' + 1)] := by rw [← hzs]; exact zipSums_take hmin
      have new : ObjOk X.prog X.w (upd (upd H10 D (.lst ((zs.take i').map V.int))) D (.lst ((zs.take (i' + 1)).map V.int))) h11 D (.lst ((zs.take (i' + 1)).map V.int)) := by
        refine ⟨?_, its' ++ [.int (ns.getD i' 0 + Acc.smv ms (i' + 1)) k], nn + 1, ?_, ?_⟩
        · rw [List.length_map, List.length_take]
          exact Nat.le_trans (Nat.min_le_right _ _) (Nat.le_trans (by rw [zl]; exact Nat.min_le_left _ _) (Nat.le_trans hlen (by decide)))
        · rw [htk, List.map_append]
          exact rv'.append (.cons ⟨_, rfl⟩ .nil)
        · rw [ho11]
          simp
      have I11 := I10u.write (x := D) (e := D) (h' := h11) (t' := s10.toks) (by rw [upd_same]; trivial) (.inl rfl) (fun b u hb q => (sb11.2 b hb).trans q) ⟨_, ho11⟩ new
      rw [upd_upd] at I11
      have pin' : ∀ b ∈ fp, ∀ o, s7.heap.get? b = some o → h11.get? b = some o ∧ H10 b = none := fun b hb o e => by
        have z := I11.pin (b, o) (List.mem_append_right _ (List.mem_append_right _ (mem_pinsAt hb e)))
        refine ⟨z.1, ?_⟩
        have z2 : (upd H10 D (.lst ((zs.take (i' + 1)).map V.int))) b = none := z.2.1
        rw [upd_ne (nD b hb)] at z2
        exact z2
      refine ⟨zs.length - (i' + 1), by omega, i' + 1, upd H10 D (.lst ((zs.take (i' + 1)).map V.int)), _, (I11.unpinned (pins := [])).weak (by rw [← hw8, wipe_length]) (fun j v e => ?_), T.keep _ _ _ st7 fun b hb o e => (pin' b hb o e).1, fun b hb => ?_, rfl, hlt, ?_, upd_same, ho11, ?_, t10⟩
      · rw [← hw8] at e
        exact (wipe_some e).1
      · obtain ⟨o, e, _⟩ := T.obj _ _ st7 b hb
        rw [upd_ne (nD b hb)]
        exact (pin' b hb o e).2
      · intro c o q
        rw [upd_ne (fun z => by subst z; rw [hDn] at q; cases q)]
        exact sm7 c o q
      · rw [htk]
        exact ⟨_, _, rfl, tokO_push Tk hk⟩
    · have ei : i' = zs.length := Nat.le_antisymm hi5 (Nat.not_lt.mp hlt)
      subst ei
      have td := T.done (X.blk s3 H3 scope ce fp) rfl rfl rfl hc zs.length [] s5 _ HL (fun _ _ => False) I5L (stat I5L n5L) st5 ⟨ns.map V.int, qaL, qbL, by rw [List.length_map, zl]; exact (Nat.le_total ns.length ms.length).elim (fun h => .inl (by rw [Nat.min_eq_left h]; exact Nat.le_refl _)) fun h => .inr (by rw [Nat.min_eq_right h]; exact Nat.le_refl _)⟩
      refine thnF td fun r s6 ⟨hr, I6⟩ => ?_
      subst hr
      have I7 : Inv X pins σ HL s6 := I3.call' (ch := fp) I6.os I6.base I6.hok I6.bare fun b hb => ⟨(f3 b hb).1.2.2.2.1, (f3 b hb).1.2.1, (f3 b hb).1.2.2.2.2.1, (f3 b hb).1.2.2.2.2.2⟩
      have nC : HL s3.heap.objs.size = none := by
        have z : HL ce.locals = none := I6.free
        rw [cL] at z
        exact z
      obtain ⟨m, hn, _⟩ := I6.loc
      have hn : s6.heap.Ns ce.locals m := hn
      rw [cL] at hn
      have f := I3.fpOk (Nat.le_refl _) nC
      show wpAny _ _ (assign (.Name y py) X.env (.ref D)) _ _ _
      refine wpAny_assign_Name (store_ok2 (v := V.ref D) I7 hN hy (.inl hyl) rfl (fun s8 I8 ⟨a8, sb, ha8⟩ => ?_) (.inr hyl))
      obtain ⟨f0, f1, f2', f3', f4, f5⟩ := f
      have haC : s3.heap.objs.size ≠ a8 := by
        rcases ha8 with z | z
        · rw [z]; exact f1
        · exact fun e => f4 y a8 z e.symm
      refine ⟨m, hn.sameBut sb haC, fun h9 sb9 => ?_⟩
      refine ⟨_, HL, I8.turned (t' := s8.toks) (fun b o hb e => (sb9.2 b hb).trans e) f0 f1 f3' f4 f5, ?_⟩
      rw [List.take_length] at dL tk5
      exact kfin D o5 HL sm5L hDn dL tk5
  exact codeAny_compStart_list loop (T.self X.A 0 _ _ _ st4 loop)
end
end FL

set_option Elab.async false
set_option linter.all false
set_option maxRecDepth 100000
set_option maxHeartbeats 4000000
namespace FL
open PySem PySem.Spec PyProof.Rows L2
/-- y = [a + b for a, b in zip(e, accumulate(e2))]; xs.append(list(accumulate(y, min))) -/
def sAcc (i j : Nat) (fa fb : M D) : FS := fun e => match fa e with
  | some (.lst ds, e1) => (match fb e1 with
    | some (.lst es, e2) => (match intsD ds, intsD es, e2[i]?, e2[j]? with
      | some ns, some ms, some s, some (.ow f (.lst zs)) => if ns.length ≤ 1000000 ∧ zs.length < 1000000 ∧ lentS s = false ∧ i ≠ j then some (.nx ((e2.set i .un).set j (.ow f (.lst (zs ++ [.lst ((scanMin (zipSums ns ms)).map D.int)]))))) else none
      | _, _, _, _ => none)
    | _ => none)
  | _ => none
theorem ER.forget {K : PySem.W.Frag} {L : Nat → Option Addr} {S0 H0 S H : Hp} {σ : L2.St} {env : En} (E : ER K L S0 H0 S H σ env) {i : Nat} {x : Option V} (hL : ∀ e, env[i]? ≠ some (.ow false e)) : ER K L S0 H0 S H (σ.set i x) (env.set i .un) := by
  have hLi : ∀ p, L i ≠ some p := fun p z => by
    obtain ⟨_, e, q⟩ := E.lnt i p z
    exact hL e q
  have slot : ∀ (j : Nat) (s : Sl), (env.set i Sl.un)[j]? = some s → s = .un ∨ (j ≠ i ∧ env[j]? = some s) := fun j s q => by
    by_cases hj : j = i
    · subst hj
      rw [List.getElem?_set, if_pos rfl] at q
      split at q <;> cases q
      exact .inl rfl
    · rw [List.getElem?_set_ne (Ne.symm hj)] at q
      exact .inr ⟨hj, q⟩
  refine ⟨E.sub, by simp [E.len], fun j d q => ?_, fun j f d q => ?_, fun j k f g d e p hjk q1 q2 q3 => ?_, E.s0, E.dom, E.kep, E.frs, fun j p q => ?_, E.lsd⟩
  · rcases slot j _ q with q | ⟨hj, q⟩
    · cases q
    · rw [List.getElem?_set_ne (Ne.symm hj)]; exact E.sh j d q
  · rcases slot j _ q with q | ⟨hj, q⟩
    · cases q
    · rw [List.getElem?_set_ne (Ne.symm hj)]; exact E.ow j f d q
  · rcases slot j _ q1 with q1 | ⟨h1, q1⟩
    · cases q1
    · rcases slot k _ q2 with q2 | ⟨h2, q2⟩
      · cases q2
      · rw [List.getElem?_set_ne (Ne.symm h1)] at q3
        rw [List.getElem?_set_ne (Ne.symm h2)]
        exact E.dis j k f g d e p hjk q1 q2 q3
  · have hj : j ≠ i := fun z => by subst z; exact hLi p q
    rw [List.getElem?_set_ne (Ne.symm hj), List.getElem?_set_ne (Ne.symm hj)]
    exact E.lnt j p q
section
variable {X : Cx} {c : Ct}
theorem fs_acc {i j ib ig : Nat} {y x xb xg : Str} {e e2 : Expr} {fa fb : M D} {scope : Scope} {py qb qg tpos pb pg pz p p2 q zpos pos spos px apos cpos epos pl pa py2 pm qq : Pos} {kk : Nat} (hc : X.calm = true) (hN : X.N.Nodup) (hy : X.N[i]? = some y) (hyl : X.env.scope.names.lookup y = some .local)
    (hsw : swapsWith (.ListComp (.BinOp (.Name xb pb) .Add (.Name xg pg) pz) [⟨.Tuple [.Name xb qb, .Name xg qg] kk tpos, .Call (.Name "zip" p) [e, .Call (.Name "accumulate" p2) [e2] [] q] [] zpos, [], 0⟩] scope pos) (some (.Name y py)) spos.line X.env = pure true)
    (B : Blk2 X scope xb xg ib ig qb qg tpos pb pg kk) (hg : Gl X "zip") (hm : X.mg "zip" = none) (hg2 : Gl X "accumulate") (hm2 : X.mg "accumulate" = some (.type Acc.aT)) (he : PEt X e (tM X.K c fa)) (he2 : FE X c e2 fb)
    (hgl : Gl X "list") (hml : X.mg "list" = none) (hgm : Gl X "min") (hmm : X.mg "min" = none) (vy : PE X (.Name y py2) (tVar i)) (vx : PE X (.Name x px) (tVar j))
    (na : starEach [e, .Call (.Name "accumulate" p2) [e2] [] q] X.env = (false, eval e X.env) :: starEach [.Call (.Name "accumulate" p2) [e2] [] q] X.env := by rfl)
    (nb : starEach [.Call (.Name "accumulate" p2) [e2] [] q] X.env = (false, eval (.Call (.Name "accumulate" p2) [e2] [] q) X.env) :: starEach [] X.env := by rfl)
    (nc : starEach [e2] X.env = (false, eval e2 X.env) :: starEach [] X.env := by rfl) (nd : (backTo q (starEach ([] : List Expr) X.env)).any (·.1) = false := by rfl)
    (ne : (backTo zpos (starEach [.Call (.Name "accumulate" p2) [e2] [] q] X.env)).any (·.1) = false := by rfl) (hs : ∀ x, foldedSetIterable (.Call (.Name "zip" p) [e, .Call (.Name "accumulate" p2) [e2] [] q] [] zpos) X.env x = pure x := by intro _; rfl)
    (ma : starEach [.Call (.Name "accumulate" pa) [.Name y py2, .Name "min" pm] [] qq] X.env = (false, eval (.Call (.Name "accumulate" pa) [.Name y py2, .Name "min" pm] [] qq) X.env) :: starEach [] X.env := by rfl)
    (mb : starEach [.Name y py2, .Name "min" pm] X.env = (false, eval (.Name y py2) X.env) :: starEach [.Name "min" pm] X.env := by rfl) (mc : starEach [.Name "min" pm] X.env = (false, eval (.Name "min" pm) X.env) :: starEach [] X.env := by rfl)
    (md : (backTo qq (starEach [.Name "min" pm] X.env)).any (·.1) = false := by rfl) (me : (backTo cpos (starEach ([] : List Expr) X.env)).any (·.1) = false := by rfl) (mf : (backTo pl (starEach ([] : List Expr) X.env)).any (·.1) = false := by rfl)
    (hbase : attributeBase (.Name x px) "append" X.env (eval (.Name x px) X.env) = eval (.Name x px) X.env := by rfl) {pl2 : Pos}
    (hfew : ((backTo cpos (starEach [.Call (.Name "list" pl2) [.Call (.Name "accumulate" pa) [.Name y py2, .Name "min" pm] [] qq] [] pl] X.env)).all (fun x => !x.1) && (backToKw cpos (keywordEach [] X.env)).all (fun x => x.1.isSome) && decide (([.Call (.Name "list" pl2) [.Call (.Name "accumulate" pa) [.Name y py2, .Name "min" pm] [] qq] [] pl] : List Expr).length + ([] : List Keyword).length + (if ([] : List Keyword).isEmpty then 0 else 1) < 30)) = true := by rfl)
    (hline : (apos.endLine == cpos.line) = true := by rfl) (hs2 : starEach [.Call (.Name "list" pl2) [.Call (.Name "accumulate" pa) [.Name y py2, .Name "min" pm] [] qq] [] pl] X.env = (false, eval (.Call (.Name "list" pl2) [.Call (.Name "accumulate" pa) [.Name y py2, .Name "min" pm] [] qq] [] pl) X.env) :: starEach [] X.env := by rfl)
    (hsw2 : swapsWith (.Call (.Attribute (.Name x px) "append" apos) [.Call (.Name "list" pl2) [.Call (.Name "accumulate" pa) [.Name y py2, .Name "min" pm] [] qq] [] pl] [] cpos) none epos.line X.env = pure false := by rfl) :
    FSs X c [.Assign [.Name y py] (.ListComp (.BinOp (.Name xb pb) .Add (.Name xg pg) pz) [⟨.Tuple [.Name xb qb, .Name xg qg] kk tpos, .Call (.Name "zip" p) [e, .Call (.Name "accumulate" p2) [e2] [] q] [] zpos, [], 0⟩] scope pos) spos,
      .Expr (.Call (.Attribute (.Name x px) "append" apos) [.Call (.Name "list" pl2) [.Call (.Name "accumulate" pa) [.Name y py2, .Name "min" pm] [] qq] [] pl] [] cpos) epos] (sAcc i j fa fb) :=
  (pss_cons (ps_sums hc hN hy hyl hsw B hg hm hg2 hm2 he he2 na nb nc nd ne hs)
    (pss_one (ps_expr (pe_bm PySem.F.plainAttrs_list PySem.F.slot_list_append PySem.F.type_list_append (mt_append (X := X)) vx (pa_cons (pe_accMin hgl hml hg2 hm2 hgm hmm vy hc ma mb mc md mf) pa_nil hs2) hbase hfew hline hs2 me) hsw2))).weak fun D' σ H ⟨S, env, o, E, e1, k⟩ => by
    unfold sAcc at e1
    split at e1
    · rename_i ds ea qa
      split at e1
      · rename_i es eb qb
        split at e1
        · rename_i ns ms s f zs q1 q2 q3 q4
          split at e1
          · rename_i hc4
            obtain ⟨hn, hz, hl, hij⟩ := hc4
            cases e1
            have ed := FL.ints_map q1
            have ee := FL.ints_map q2
            subst ed ee
            refine ⟨S, env, _, ea, E, qa, fun S1 H1 v E1 s1 r1 => ⟨S1, ea, _, eb, E1, qb, fun S2 H2 u E2 s2 r2 => ?_⟩⟩
            cases r1 with
            | lst hv rv =>
              cases r2 with
              | lst hu ru =>
                rename_i a1 vs1 b1 vs2
                have ev := rv.ints
                have eu := ru.ints
                subst ev eu
                have sa : SqL X.K H2 a1 (ns.map V.int) := .of (E2.sub _ _ (s2 _ _ hv))
                have sb : SqL X.K H2 b1 (ms.map V.int) := .of (E2.sub _ _ hu)
                refine ⟨a1, b1, ns.map V.int, ms, rfl, rfl, sa, sb, a1, b1, ns, ms, rfl, sa, sb, hn, fun L o H3 sm hL dL tk => ?_⟩
                have nlent : ∀ e, eb[i]? ≠ some (.ow false e) := fun e z => by rw [q3] at z; exact lentS_no (by rw [hl]; exact Bool.false_ne_true) (Option.some.inj z)
                have E3 := (E2.grow (Same.refl S2) (fun b o q => sm b o (E2.sub b o q)) (fun x hx => by
                  cases ex : H2 x with
                  | none => exact absurd ex hx
                  | some o => rw [sm x o ex]; exact fun z => nomatch z) sm (fun x h => .inl h)).forget (i := i) (x := some (.ref L)) nlent
                have li : i < σ.length := by rw [← E2.len]; exact (List.getElem?_eq_some_iff.mp q3).1
                have qj : (eb.set i Sl.un)[j]? = some (.ow f (.lst zs)) := by rw [List.getElem?_set_ne hij]; exact q4
                obtain ⟨pj, aj, ⟨vj, hpj, rj⟩, zj, wj⟩ := E3.ow j f _ qj
                refine ⟨_, aj, .inl ⟨rfl, vj, .of hpj⟩, L, o, zipSums ns ms, List.getElem?_set_self li, dL, tk, ?_, fun g hgn => ⟨pj, vj, .ref g, rfl, rfl, ?_, ?_, ?_⟩⟩
                · rw [zipSums_len]
                  exact Nat.le_trans (Nat.min_le_left _ _) hn
                · rw [upd_ne (fun z => by subst z; rw [hgn] at hpj; cases hpj)]
                  exact hpj
                · rw [← rj.length]; exact big1000000 hz
                · have E4 := E3.laid (p := g) (.lst ((scanMin (zipSums ns ms)).map V.int)) hgn
                  have sg : Same S2 (upd S2 g (.lst ((scanMin (zipSums ns ms)).map V.int))) := same_upd (E3.sub.free hgn)
                  refine k _ _ _ (E4.chg qj aj (fun b hb => upd_ne hb) ⟨_, upd_same, (rj.mono sg).append (.cons (.lst upd_same (RelDs.of_ints _)) .nil)⟩) ((s1.trans s2).trans sg)
          · cases e1
        · cases e1
      · cases e1
    · cases e1
end
end FL

set_option Elab.async false
set_option linter.all false
set_option maxRecDepth 100000
set_option maxHeartbeats 4000000
/-! ## {e for x in xs}, ints -/
namespace FL
open PySem PySem.Spec PyProof.Rows L2
section
variable {X : Cx}
def tScI (w : World) (wi : TI) (g : TG) (te : TE) (vs : List Nat) : TE := fun σ H Q => wi σ H fun J H1 => ∀ D, H1 D = none → ∃ W : Nat → Nat → Hp → Prop, (∃ m, W 0 m (upd H1 D (SetO w D (fun _ => false) 0))) ∧ ∀ i m H, W i m H →
  (J.stop i H ∧ Q (.ref D) H) ∨ (J.go i H ∧ ∃ Nx : Hp → Prop, (∀ H', Nx H' → ∃ m', m' < m ∧ W (i + 1) m' H') ∧ ∀ x H', J.yld i H x H' → g x (wipe σ vs) H' fun σ2 H2 => wipe σ2 vs = wipe σ vs ∧
    te σ2 H2 fun y H4 => ∃ (k : Int) (S : Int → Bool) (n : Nat), y = .int k ∧ H4 D = some (SetO w D S n) ∧ n + 1 < scanBound ∧ Nx (upd H4 D (SetO w D (fun j => S j || decide (j = k)) (if S k = true then n else n + 1))))
theorem pe_scI {elt tg iter : Expr} {scope : Scope} {own : List (Str × Nat)} {pos : Pos} {wi : TI} {g : TG} {te : TE} (hc : X.calm = true) (hN : X.N.Nodup) (hi : PI X tg iter wi) (ok : BlkOk X.N X.env.scope scope own)
    (hg : ∀ (s : Shared) (H : Hp) (C : Addr) (cl : List (Str × Addr)) (fp : List Addr), PG (X.blk s H scope (compEnvC scope cl C X.env) fp) tg g)
    (he : ∀ (s : Shared) (H : Hp) (C : Addr) (cl : List (Str × Addr)) (fp : List Addr), PE (X.blk s H scope (compEnvC scope cl C X.env) fp) elt te) (hs : ∀ x, foldedSetIterable iter X.env x = pure x := by intro _; rfl) :
    PE X (.SetComp elt [⟨tg, iter, [], 0⟩] scope pos) (tScI X.w wi g te (own.map (·.2))) := by
  refine ⟨fun pins s σ H Q I h => ?_⟩
  rw [PpSet.eval_SetComp]
  have hfree : ∀ y ∈ scope.names, y.2 = .free → ∃ c, X.env.cells.lookup y.1 = some c := fun y hy e => by
    rcases ok.free y hy e with k | k
    · exact I.ok.has _ (.inl k)
    · exact I.ok.has _ (.inr k)
  refine wpAny_comprehension_free (use := none) rfl hs (closure_ok hfree) ok.kind (fun y hy e => by rw [ok.uniq y hy, e]) (thn (hi.run pins s σ H _ I h) fun xv s1 hx => thn hx fun itv s2 h2 => ?_)
  obtain ⟨it, fp, tn, J, H2, e, I2, T, st2, f2, q⟩ := h2
  subst e
  refine PpSet.newSet_ok (newEnv_comp ?_)
  generalize hD : s2.heap.objs.size = D
  have hDn : H2 D = none := I2.hok.fresh (Nat.le_of_eq hD)
  obtain ⟨W, ⟨m0, w0⟩, turn⟩ := q D hDn
  generalize hs3 : ({ s2 with heap := s2.heap.push { cls := .type "set", dict := none, data := .set #[] 0 (.fresh 0 0 (!X.w.params.followText "set-order")) } } : Shared) = s3
  have h3 : s3.heap = s2.heap.push { cls := .type "set", dict := none, data := .set #[] 0 (.fresh 0 0 (!X.w.params.followText "set-order")) } := by rw [← hs3]
  have I3 : Inv X pins σ (upd H2 D (SetO X.w D (fun _ => false) 0)) s3 := by
    rw [← hs3]
    refine I2.laid (t' := s2.toks) (fun b o e => Heap.get?_push_of_some _ e) (Nat.le_of_eq hD) ?_
    rw [← hD]
    exact setO_new (setR_fresh X.w)
  have sz : ∀ b ∈ fp, b < s2.heap.objs.size := fun b hb => by
    obtain ⟨o, e, _⟩ := T.obj _ _ st2 b hb
    exact Heap.lt_size e
  have nD : ∀ b ∈ fp, b ≠ D := fun b hb => by rw [← hD]; exact Nat.ne_of_lt (sz b hb)
  have f3 : ∀ b ∈ fp, FpOk X pins (upd H2 D (SetO X.w D (fun _ => false) 0)) b ∧ b < s3.heap.objs.size := fun b hb => by
    refine ⟨⟨?_, (f2 b hb).2⟩, by rw [h3, Heap.size_push]; exact Nat.lt_succ_of_lt (sz b hb)⟩
    rw [upd_ne (nD b hb)]
    exact (f2 b hb).1
  have st3 : tn 0 s3.heap := T.keep _ _ _ st2 fun b _ o e => by rw [h3]; exact Heap.get?_push_of_some _ e
  have I4 := block_start I3 ok hN f3
  have pgk := hg s3 (upd H2 D (SetO X.w D (fun _ => false) 0)) s3.heap.objs.size (cellsFrom (s3.heap.objs.size + 1) scope.names (cloFrom X.env.cells scope.names [])) fp
  have pek := he s3 (upd H2 D (SetO X.w D (fun _ => false) 0)) s3.heap.objs.size (cellsFrom (s3.heap.objs.size + 1) scope.names (cloFrom X.env.cells scope.names [])) fp
  show codeAny _ _ (.compStart (.SetComp elt [⟨tg, iter, [], 0⟩] scope pos) 0 (.ref it) (.ref D) (compEnvC scope (cellsFrom (s3.heap.objs.size + 1) scope.names (cloFrom X.env.cells scope.names [])) s3.heap.objs.size X.env))
    (compPost (model X.prog X.w) X.A X.xe none (EP X pins σ Q) (.ref D) s3.heap.objs.size) { s3 with heap := pushCells (s3.heap.push { cls := .type "dict", data := .dict #[] }) scope.names }
  have nfp : ∀ b ∈ fp, (upd H2 D (SetO X.w D (fun _ => false) 0)) b = none := fun b hb => (f3 b hb).1.1
  generalize hce : compEnvC scope (cellsFrom (s3.heap.objs.size + 1) scope.names (cloFrom X.env.cells scope.names [])) s3.heap.objs.size X.env = ce at I4 pgk pek ⊢
  have cL : ce.locals = s3.heap.objs.size := by subst hce; rfl
  generalize hH3 : upd H2 D (SetO X.w D (fun _ => false) 0) = H3 at I3 I4 pgk pek w0 nfp f3
  generalize hs4 : ({ s3 with heap := pushCells (s3.heap.push { cls := .type "dict", data := .dict #[] }) scope.names } : Shared) = s4 at I4 ⊢
  have st4 : tn 0 s4.heap := T.keep _ _ _ st3 fun b _ o e => by rw [← hs4]; exact pushCells_keeps _ _ _ _ (Heap.get?_push_of_some _ e)
  have stat : ∀ {σ' : L2.St} {H' : Hp} {s' : Shared}, Inv (X.blk s3 H3 scope ce fp) [] σ' H' s' → (∀ b ∈ fp, H' b = none) → ∀ b ∈ fp, FpOk (X.blk s3 H3 scope ce fp) [] H' b := fun {σ' H' s'} I' hn b hb =>
    ⟨hn b hb, (I'.ok.exf b hb).1, I'.ok.exfs b hb, .inl hb, fun x c e => (I'.ok.exf b hb).2 x c e, fun p hp => absurd (show p ∈ ([] : List (Addr × Obj)) ++ [] from hp) (by simp)⟩
  have loop : codeAny (model X.prog X.w) X.A (.compLoop (.SetComp elt [⟨tg, iter, [], 0⟩] scope pos) 0 (.ref it) (.ref D) ce) (compPost (model X.prog X.w) X.A X.xe none (EP X pins σ Q) (.ref D) s3.heap.objs.size) s4 := by
    refine PpSet.compLoopS_any (fun n s' => ∃ i H', Inv (X.blk s3 H3 scope ce fp) [] (wipe σ (own.map (·.2))) H' s' ∧ tn i s'.heap ∧ (∀ b ∈ fp, H' b = none) ∧ W i n H') ?_ m0 ⟨0, H3, I4, st4, nfp, w0⟩
    rintro n s5 ⟨i, H5, I5, st5, n5, w5⟩
    rcases turn i n H5 w5 with ⟨stop, qq⟩ | ⟨go, Nx, hNx, step⟩
    · have td := T.done (X.blk s3 H3 scope ce fp) rfl rfl rfl hc i [] s5 _ H5 (fun _ _ => False) I5 (stat I5 n5) st5 stop
      refine thnF td fun r s6 ⟨hr, I6⟩ => ?_
      subst hr
      have I7 : Inv X pins σ H5 s6 := I3.call' (ch := fp) I6.os I6.base I6.hok I6.bare fun b hb => ⟨(f3 b hb).1.2.2.2.1, (f3 b hb).1.2.1, (f3 b hb).1.2.2.2.2.1, (f3 b hb).1.2.2.2.2.2⟩
      have nC : H5 s3.heap.objs.size = none := by
        have z : H5 ce.locals = none := I6.free
        rw [cL] at z
        exact z
      obtain ⟨m, hn, _⟩ := I6.loc
      have hn : s6.heap.Ns ce.locals m := hn
      rw [cL] at hn
      obtain ⟨f0, f1, f2', f3', f4, f5⟩ := I3.fpOk (Nat.le_refl _) nC
      exact ⟨m, hn, fun h'' sb => ⟨.ref D, H5, I7.turned (t' := s6.toks) (fun b o hb e => (sb.2 b hb).trans e) f0 f1 f3' f4 f5, rfl, qq⟩⟩
    · have ti := T.item (X.blk s3 H3 scope ce fp) rfl rfl rfl hc i [] s5 _ H5 (fun _ _ => False) I5 (stat I5 n5) st5 go
      refine thnF ti fun r s6 ⟨u, hr, h6⟩ => ?_
      subst hr
      refine thnF h6 fun _ s7 ⟨x, H7, I7, r7, y7, st7, n7⟩ => ?_
      have I7' := I7.pinned (stat I7 n7) (T.obj _ _ st7)
      refine thnF (pgk.run _ s7 _ H7 x u _ I7' r7 (step x H7 y7)) fun _ s8 ⟨σ8, H8, I8, hw8, q8⟩ => ?_
      refine wpAny_tests_nil ?_
      simp only [if_true]
      refine thnF (pek.run _ s8 σ8 H8 _ I8 q8) fun z s10 ⟨yv, H10, I10, r10, k, S0, n0, ey, hD10, hz10, nx⟩ => ?_
      subst ey
      obtain ⟨tk, rfl⟩ := r10
      refine setR_add (setO_get (X := X.blk s3 H3 scope ce fp) I10 hD10) hz10 fun h11 sb new => ?_
      have hex : ∃ u, h11.get? D = some u := by
        have ⟨o, _, _, _, ho, _⟩ := new
        exact ⟨o, ho⟩
      have I11 := I10.write (x := D) (e := D) (h' := h11) (t' := s10.toks + 1) (by rw [hD10]; trivial) (.inl rfl) (fun b u hb hu => (sb.2 b hb).trans hu) hex (setO_new (P := X.prog) (H := _) new)
      obtain ⟨m', hm, w'⟩ := hNx _ nx
      have pin' : ∀ b ∈ fp, ∀ o, s7.heap.get? b = some o → h11.get? b = some o ∧ _ := fun b hb o e =>
        let z := I11.pin (b, o) (List.mem_append_right _ (List.mem_append_right _ (mem_pinsAt hb e)))
        ⟨z.1, z.2.1⟩
      refine ⟨m', hm, i + 1, _, (I11.unpinned (pins := [])).weak (by rw [← hw8, wipe_length]) (fun j v e => ?_), T.keep _ _ _ st7 fun b hb o e => (pin' b hb o e).1, fun b hb => ?_, w'⟩
      · rw [← hw8] at e
        exact (wipe_some e).1
      · obtain ⟨o, e, _⟩ := T.obj _ _ st7 b hb
        exact (pin' b hb o e).2
  exact PpSet.codeAny_compStart_set loop (T.self X.A 0 _ _ _ st4 loop)
end
end FL

set_option Elab.async false
set_option linter.all false
set_option maxRecDepth 100000
set_option maxHeartbeats 4000000
/-! ## sorted({e for x in xs}) -/
namespace FL
open PySem PySem.Spec PyProof.Rows L2
/-- put in, once -/
def sins (k : Int) : List Int → List Int
  | [] => [k]
  | x :: r => if k < x then k :: x :: r else if k = x then x :: r else x :: sins k r
/-- the numbers of a list, ascending, each once -/
def sset : List Int → List Int
  | [] => []
  | k :: r => sins k (sset r)
theorem mem_sins {k j : Int} : ∀ {l : List Int}, j ∈ sins k l ↔ j = k ∨ j ∈ l
  | [] => by simp [sins]
  | x :: r => by
    unfold sins
    split
    · simp
    · split
      · rename_i h
        subst h
        simp
      · rw [List.mem_cons, mem_sins, List.mem_cons]
        constructor
        · rintro (h | h | h)
          · exact .inr (.inl h)
          · exact .inl h
          · exact .inr (.inr h)
        · rintro (h | h | h)
          · exact .inr (.inl h)
          · exact .inl h
          · exact .inr (.inr h)
theorem mem_sset {j : Int} : ∀ {l : List Int}, j ∈ sset l ↔ j ∈ l
  | [] => by simp [sset]
  | k :: r => by
    show j ∈ sins k (sset r) ↔ _
    rw [mem_sins, mem_sset, List.mem_cons]
theorem sins_pw {k : Int} : ∀ {l : List Int}, l.Pairwise (· < ·) → (sins k l).Pairwise (· < ·)
  | [], _ => by simp [sins]
  | x :: r, h => by
    obtain ⟨h1, h2⟩ := List.pairwise_cons.mp h
    unfold sins
    split
    · rename_i hk
      refine List.pairwise_cons.mpr ⟨fun y hy => ?_, h⟩
      rcases List.mem_cons.mp hy with rfl | hy
      · exact hk
      · exact Int.lt_trans hk (h1 y hy)
    · split
      · exact h
      · refine List.pairwise_cons.mpr ⟨fun y hy => ?_, sins_pw h2⟩
        rcases mem_sins.mp hy with rfl | hy
        · omega
        · exact h1 y hy
theorem sset_pw : ∀ {l : List Int}, (sset l).Pairwise (· < ·)
  | [] => by simp [sset]
  | k :: r => sins_pw sset_pw
/-- an ascending list is told by its members -/
theorem asc_ext : ∀ {a b : List Int}, a.Pairwise (· < ·) → b.Pairwise (· < ·) → (∀ k, k ∈ a ↔ k ∈ b) → a = b
  | [], [], _, _, _ => rfl
  | [], y :: s, _, _, h => by have := (h y).mpr (by simp); simp at this
  | x :: r, [], _, _, h => by have := (h x).mp (by simp); simp at this
  | x :: r, y :: s, ha, hb, h => by
    obtain ⟨a1, a2⟩ := List.pairwise_cons.mp ha
    obtain ⟨b1, b2⟩ := List.pairwise_cons.mp hb
    have e : x = y := by
      have h1 := (h x).mp (by simp)
      have h2 := (h y).mpr (by simp)
      rcases List.mem_cons.mp h1 with e | h1
      · exact e
      · rcases List.mem_cons.mp h2 with e | h2
        · exact e.symm
        · have := b1 x h1
          have := a1 y h2
          omega
    subst e
    have : r = s := asc_ext a2 b2 fun k => by
      have hk := h k
      simp only [List.mem_cons] at hk
      constructor
      · intro z
        rcases hk.mp (.inr z) with e | z2
        · subst e; exact absurd (a1 k z) (by omega)
        · exact z2
      · intro z
        rcases hk.mpr (.inr z) with e | z2
        · subst e; exact absurd (b1 k z) (by omega)
        · exact z2
    rw [this]
theorem sins_len {k : Int} : ∀ {l : List Int}, l.Pairwise (· < ·) → (sins k l).length = if k ∈ l then l.length else l.length + 1
  | [], _ => by simp [sins]
  | x :: r, h => by
    obtain ⟨h1, h2⟩ := List.pairwise_cons.mp h
    unfold sins
    split
    · rename_i hk
      rw [if_neg]
      · rfl
      · intro z
        rcases List.mem_cons.mp z with rfl | z
        · omega
        · have := h1 k z; omega
    · split
      · rename_i e
        rw [if_pos (by simp [e])]
      · rename_i hk hx
        have ih := sins_len (k := k) h2
        rw [List.length_cons, ih]
        by_cases hm : k ∈ r
        · rw [if_pos hm, if_pos (List.mem_cons_of_mem _ hm)]
          rfl
        · rw [if_neg hm, if_neg]
          · rfl
          · intro z
            rcases List.mem_cons.mp z with e | z
            · exact hx e
            · exact hm z
/-- with one more at the end -/
theorem sset_snoc (l : List Int) (k : Int) : sset (l ++ [k]) = sins k (sset l) :=
  asc_ext sset_pw (sins_pw sset_pw) fun j => by
    rw [mem_sset, mem_sins, mem_sset, List.mem_append, List.mem_singleton]
    exact Or.comm
theorem sset_snoc_len (l : List Int) (k : Int) : (sset (l ++ [k])).length = if k ∈ l then (sset l).length else (sset l).length + 1 := by
  rw [sset_snoc, sins_len sset_pw]
  by_cases h : k ∈ l
  · rw [if_pos h, if_pos (mem_sset.mpr h)]
  · rw [if_neg h, if_neg fun z => h (mem_sset.mp z)]
theorem sset_len_le : ∀ (l : List Int), (sset l).length ≤ l.length
  | [] => Nat.le_refl _
  | k :: r => by
    show (sins k (sset r)).length ≤ _
    rw [sins_len sset_pw, List.length_cons]
    have := sset_len_le r
    split <;> omega
def isF (ns : List Int) : Int → Bool := fun j => decide (j ∈ ns)
theorem isF_snoc (ns : List Int) (k : Int) : (fun j => isF ns j || decide (j = k)) = isF (ns ++ [k]) := by
  funext j
  unfold isF
  rw [Bool.eq_iff_iff]
  simp
def mSortS (f : M D) (set : FG) (el : M D) (vs : List Nat) : M D := fun e => match f e with
  | some (d, e1) => (match itemsD d with
    | some ds => (match compF vs set mYes el ds e1 with
      | some (xs, e2) => (match intsD xs with
        | some ns => bif decide (ns.length < 64) then some (.lst ((sset ns).map D.int), e2) else none
        | none => none)
      | none => none)
    | none => none)
  | none => none
/-- the comprehension's state at a turn -/
structure CI (w : World) (K : PySem.W.Frag) (c : Ct) (S1 : Hp) (σ : L2.St) (Dd : Addr) (S H : Hp) (e : En) (ns : List Int) : Prop where
  E : Er K c S H σ e
  s : Same S1 S
  d : S Dd = none
  d0 : c.H0 Dd = none
  fr : ∀ (j : Nat) (f : Bool) (x : D), e[j]? = some (.ow f x) → σ[j]? ≠ some (some (.ref Dd))
  h : H Dd = some (SetO w Dd (isF ns) (sset ns).length)
section
variable {w : World} {K : PySem.W.Frag} {c : Ct} {S1 S H : Hp} {σ : L2.St} {Dd : Addr} {e : En} {ns : List Int} {vs : List Nat} {set : FG} {el : M D} {g : TG}
theorem ci_turn {ds : List D} {ys : List Int} {d : D} {v : V} {eF : En} (C : CI w K c S1 σ Dd S H e ns) (rd : RelD K S d v) (q : compF vs set mYes el (d :: ds) e = some (ys.map D.int, eF)) (hlen : ns.length + ys.length < 64)
    (hg : ∀ (c : Ct) (S H : Hp) (σ : L2.St) (env e' : En) (d : D) (v : V) (Q : L2.St → Hp → Prop), Er K c S H σ env → RelD K S d v → set d env = some e' → (∀ σ', Er K c S H σ' e' → wipe σ' vs = wipe σ vs → Q σ' H) → g v σ H Q)
    (Pn : Hp → Prop) (nx : ∀ S2 H2 e2 ns2 ys2, CI w K c S1 σ Dd S2 H2 e2 ns2 → compF vs set mYes el ds e2 = some (ys2.map D.int, eF) → ns2 ++ ys2 = ns ++ ys → Pn H2) :
    g v (wipe σ vs) H fun σ2 H2 => wipe σ2 vs = wipe σ vs ∧ eE K el σ2 H2 fun y H4 => ∃ (k : Int) (S : Int → Bool) (n : Nat), y = .int k ∧ H4 Dd = some (SetO w Dd S n) ∧ n + 1 < scanBound ∧ Pn (upd H4 Dd (SetO w Dd (fun j => S j || decide (j = k)) (if S k = true then n else n + 1))) := by
  unfold compF at q
  cases hf : freeE vs e with
  | false => rw [hf] at q; cases q
  | true =>
    rw [hf] at q
    have q' : (match set d (wipeE vs (lend e)) with
      | some e1 => (match el e1 with
            | some (x, e3) => (match compF vs set mYes el ds (backC e e3) with
              | some (xs, e4) => some (x :: xs, e4)
              | none => none)
            | none => none)
      | none => none) = some (ys.map D.int, eF) := q
    have E1 := ER.wipes vs C.E.rebase (lentOf_free hf)
    have nlen : ∀ {e2 : En} {σ2 : L2.St} {S2 H2 : Hp}, ER K (lentOf σ e) S H S2 H2 σ2 e2 → wipe σ2 vs = wipe σ vs → e.length = e2.length := fun {e2 σ2 S2 H2} E2 w => by
      have h1 := congrArg List.length w
      rw [wipe_length, wipe_length] at h1
      rw [C.E.len, ← h1, E2.len]
    have fin : ∀ {e2 : En} {σ2 : L2.St} {S2 H2 : Hp}, ER K (lentOf σ e) S H S2 H2 σ2 e2 → wipe σ2 vs = wipe σ vs → CI w K c S1 σ Dd S2 H2 (backC e e2) ns := fun {e2 σ2 S2 H2} E2 w => by
      refine ⟨ER.unbaseC C.E E2 (nlen E2 w), C.s.trans E2.s0, ?_, C.d0, fun j f x z => ?_, E2.kep Dd _ C.h fun i z => ?_⟩
      · cases e0 : S2 Dd with
        | none => rfl
        | some o =>
          rcases E2.frs Dd (by rw [e0]; exact fun z => nomatch z) with z | z
          · exact absurd C.d z
          · rw [C.h] at z; cases z
      · obtain ⟨y, z⟩ := backC_ow z
        exact C.fr j f y z
      · obtain ⟨f, d0, a, b⟩ := lentOf_some z
        exact C.fr i f d0 a b
    split at q'
    · rename_i e1 q1
      refine hg ⟨lentOf σ e, S, H⟩ S H (wipe σ vs) _ e1 d v _ E1 rd q1 fun σ2 E2 w2 => ?_
      have w2' : wipe σ2 vs = wipe σ vs := by rw [w2, wipe_self fun _ h => h]
      refine ⟨w2', ⟨lentOf σ e, S, H⟩, S, e1, ?_⟩
      split at q'
      · rename_i x e3 q3
        split at q'
        · rename_i ys' e4 q4
          cases ys with
          | nil => cases q'
          | cons k ys2 =>
            injection q' with q5
            injection q5 with q6 q7
            injection q6 with q8 q9
            subst q7 q8 q9
            refine ⟨.int k, e3, E2, q3, fun S4 H4 y E4 s4 r4 => ?_⟩
            cases r4
            have C4 := fin E4 w2'
            have hl2 := sset_len_le ns
            have hb : (64 : Nat) < scanBound := by decide
            refine ⟨k, _, _, rfl, C4.h, ?_, nx S4 _ (backC e e3) (ns ++ [k]) ys2 ?_ q4 (by simp)⟩
            · rw [List.length_cons] at hlen
              omega
            · have eh : SetO w Dd (fun j => isF ns j || decide (j = k)) (if isF ns k = true then (sset ns).length else (sset ns).length + 1) = SetO w Dd (isF (ns ++ [k])) (sset (ns ++ [k])).length := by
                rw [isF_snoc, sset_snoc_len]
                unfold isF
                by_cases hm : k ∈ ns
                · rw [if_pos (decide_eq_true hm), if_pos hm]
                · rw [if_neg (by simp [hm]), if_neg hm]
              rw [eh]
              exact ⟨C4.E.side C4.d C4.d0 C4.fr, C4.s, C4.d, C4.d0, C4.fr, upd_same⟩
        · cases q'
      · cases q'
    · cases q'
end
theorem compF_len : ∀ {vs : List Nat} {set : FG} {el : M D} {ds xs : List D} {e e' : En}, compF vs set mYes el ds e = some (xs, e') → xs.length = ds.length
  | vs, set, el, [], xs, e, e', h => by cases h; rfl
  | vs, set, el, d :: ds, xs, e, e', h => by
    unfold compF at h
    cases hf : freeE vs e with
    | false => rw [hf] at h; cases h
    | true =>
      rw [hf] at h
      have q' : (match set d (wipeE vs (lend e)) with
        | some e1 => (match el e1 with
              | some (x, e3) => (match compF vs set mYes el ds (backC e e3) with
                | some (xs, e4) => some (x :: xs, e4)
                | none => none)
              | none => none)
        | none => none) = some (xs, e') := h
      split at q'
      · split at q'
        · split at q'
          · rename_i q4
            cases q'
            rw [List.length_cons, List.length_cons, compF_len q4]
          · cases q'
        · cases q'
      · cases q'
section
variable {X : Cx} {c : Ct} {elt tg iter : Expr} {scope : Scope} {own : List (Str × Nat)} {pos : Pos} {set : FG} {el : M D} {g : TG}
theorem t_sortS {fi : M D} (hg : ∀ (c : Ct) (S H : Hp) (σ : L2.St) (env e' : En) (d : D) (v : V) (Q : L2.St → Hp → Prop), Er X.K c S H σ env → RelD X.K S d v → set d env = some e' → (∀ σ', Er X.K c S H σ' e' → wipe σ' (own.map (·.2)) = wipe σ (own.map (·.2)) → Q σ' H) → g v σ H Q)
    (σ : L2.St) (H : Hp) (Q : VK) (h : tO X.K c (mSortS fi set el (own.map (·.2))) σ H Q) :
    tScI X.w (iList X.K (tM X.K c fi)) g (eE X.K el) (own.map (·.2)) σ H fun x H2 => rSortedSet X.w [x] H2 Q := by
  obtain ⟨S, env, d, env', E, e1, kk⟩ := h
  unfold mSortS at e1
  split at e1
  · rename_i d0 e2 q
    split at e1
    · rename_i ds qd
      split at e1
      · rename_i xs eF qc
        split at e1
        · rename_i zs qz
          obtain ⟨hz, hp⟩ := bif_some e1
          cases hp
          have hz' : zs.length < 64 := of_decide_eq_true hz
          have exs := FL.ints_map qz
          subst exs
          refine ⟨S, env, d0, e2, E, q, fun S1 H1 v E1 s1 r1 => ?_⟩
          obtain ⟨a, us, rfl, hv, rs⟩ : ∃ a us, v = .ref a ∧ SqL X.K S1 a us ∧ RelDs X.K S1 ds us := by
            unfold itemsD at qd
            split at qd
            · cases qd; cases r1 with
              | lst h r => exact ⟨_, _, rfl, .of h, r⟩
            · cases qd; cases r1 with
              | scr h => exact ⟨_, _, rfl, h, .of_ints _⟩
            · cases qd
          refine ⟨a, rfl, ⟨us, E1.sub.seq hv⟩, fun Dd hD => ?_⟩
          have hD0 : c.H0 Dd = none := by
            cases ez : c.H0 Dd with
            | none => rfl
            | some o => exact absurd hD (E1.dom Dd (by rw [ez]; exact fun z => nomatch z))
          have C0 : CI X.w X.K c S1 σ Dd S1 (upd H1 Dd (SetO X.w Dd (fun _ => false) 0)) e2 [] := by
            have eh : SetO X.w Dd (fun _ => false) 0 = SetO X.w Dd (isF []) (sset []).length := by
              have : (fun _ : Int => false) = isF [] := by
                funext j
                simp [isF]
              rw [this]
              rfl
            refine ⟨E1.lay _ hD, Same.refl _, E1.sub.free hD, hD0, fun j f x q z => ?_, by rw [upd_same, eh]⟩
            obtain ⟨p1, a1, o1, _⟩ := E1.ow j f x q
            rw [a1] at z; cases z
            exact o1.there hD
          refine ⟨fun i m H => m = us.length - i ∧ i ≤ us.length ∧ ∃ S e ns ys, CI X.w X.K c S1 σ Dd S H e ns ∧ compF (own.map (·.2)) set mYes el (ds.drop i) e = some (ys.map D.int, env') ∧ ns ++ ys = zs, ⟨us.length, by simp, Nat.zero_le _, S1, e2, [], zs, C0, by rw [List.drop_zero]; exact qc, rfl⟩, ?_⟩
          rintro i m H' ⟨rfl, hi, S2, e, ns, ys, C, q2, hy⟩
          have hq := (C.s.trans C.E.sub).seq hv
          by_cases hlt : i < us.length
          · have hlt2 : i < ds.length := by rw [rs.length]; exact hlt
            refine .inr ⟨⟨us, us[i], hq, by simp [hlt]⟩, fun H'' => i + 1 ≤ us.length ∧ ∃ S e ns ys, CI X.w X.K c S1 σ Dd S H'' e ns ∧ compF (own.map (·.2)) set mYes el (ds.drop (i + 1)) e = some (ys.map D.int, env') ∧ ns ++ ys = zs, fun H'' hn => ⟨us.length - (i + 1), by omega, rfl, hn.1, hn.2⟩, fun x H'' y => ?_⟩
            obtain ⟨ey, hx⟩ := y
            subst ey
            rw [List.drop_eq_getElem_cons hlt2] at q2
            obtain ⟨x', hx', rx⟩ := rs.get (List.getElem?_eq_getElem hlt2)
            have hx2 := hx us hq
            rw [hx2] at hx'; cases hx'
            refine ci_turn C (rx.mono C.s) q2 (by have := congrArg List.length hy; rw [List.length_append] at this; omega) hg (fun H'' => i + 1 ≤ us.length ∧ ∃ S e ns ys, CI X.w X.K c S1 σ Dd S H'' e ns ∧ compF (own.map (·.2)) set mYes el (ds.drop (i + 1)) e = some (ys.map D.int, env') ∧ ns ++ ys = zs) fun S3 H3 e3 ns3 ys3 C3 q3 hy3 => ⟨hlt, S3, e3, ns3, ys3, C3, q3, hy3.trans hy⟩
          · have ei : i = us.length := Nat.le_antisymm hi (Nat.not_lt.mp hlt)
            subst ei
            refine .inl ⟨⟨us, hq, Nat.le_refl _⟩, ?_⟩
            rw [List.drop_eq_nil_of_le (by rw [rs.length]; exact Nat.le_refl _)] at q2
            have q3 : some (([] : List D), e) = some (ys.map D.int, env') := q2
            injection q3 with q4
            injection q4 with q5 q6
            have ys0 : ys = [] := by
              cases ys with
              | nil => rfl
              | cons _ _ => cases q5
            subst ys0 q6
            rw [List.append_nil] at hy
            subst hy
            refine ⟨Dd, _, _, rfl, C.h, Nat.lt_of_le_of_lt (sset_len_le _) hz', fun rs p hpw hmem hlen hp => ?_⟩
            have er : rs = sset ns := asc_ext hpw sset_pw fun k => by
              rw [hmem, mem_sset]
              simp [isF]
            subst er
            refine kk S2 _ p (C.E.lay _ hp) (s1.trans C.s) ⟨_, upd_same, RelDs.of_ints _⟩ (C.E.sub.free hp) ?_ fun j f x q z => ?_
            · cases ez : c.H0 p with
              | none => rfl
              | some o => exact absurd hp (C.E.dom p (by rw [ez]; exact fun z => nomatch z))
            · obtain ⟨p1, a1, o1, _⟩ := C.E.ow j f x q
              rw [a1] at z; cases z
              exact o1.there hp
        · cases e1
      · cases e1
    · cases e1
  · cases e1
theorem fo_sortS {fi : M D} {p qpos : Pos} (hc : X.calm = true) (hN : X.N.Nodup) (ok : BlkOk X.N X.env.scope scope own) (hi : FE X c iter fi)
    (hg : ∀ (s : Shared) (H : Hp) (C : Addr) (cl : List (Str × Addr)) (fp : List Addr), TgOk (X.blk s H scope (compEnvC scope cl C X.env) fp) (own.map (·.2)) tg set g)
    (he : ∀ (s : Shared) (H : Hp) (C : Addr) (cl : List (Str × Addr)) (fp : List Addr), PE (X.blk s H scope (compEnvC scope cl C X.env) fp) elt (eE X.K el)) (gl : Gl X "sorted") (hm : X.mg "sorted" = none) (hs : ∀ x, foldedSetIterable iter X.env x = pure x := by intro _; rfl)
    (na : starEach [.SetComp elt [⟨tg, iter, [], 0⟩] scope pos] X.env = (false, eval (.SetComp elt [⟨tg, iter, [], 0⟩] scope pos) X.env) :: starEach [] X.env := by rfl) (hpl : (backTo qpos (starEach ([] : List Expr) X.env)).any (·.1) = false := by rfl) :
    FO X c (.Call (.Name "sorted" p) [.SetComp elt [⟨tg, iter, [], 0⟩] scope pos] [] qpos) (mSortS fi set el (own.map (·.2))) :=
  (pe_callB (cr_sortedSet hc) gl hm boot_sorted (pa_cons (pe_scI hc hN (pi_list hi) ok (fun s H C cl fp => (hg s H C cl fp).1) he hs) pa_nil na) (by decide) (by decide) na hpl).weak fun σ H Q h => t_sortS (hg X.s_0 (fun _ => none) 0 [] []).2 σ H Q h
end
end FL

set_option Elab.async false
set_option linter.all false
set_option maxRecDepth 100000
set_option maxHeartbeats 4000000
/-! ## for x in reversed(range(e)), xs.index(e) -/
namespace FL
open PySem PySem.Spec PyProof.Rows L2
/-- n - 1, .., 0 -/
def downFrom (n : Nat) : List D := stepTo ((n : Int) - 1) (-1) n
def sForRev (f : M D) (set : FG) (body : FS) : FS := fun e => match f e with
  | some (.int j, e1) => if rgOk j then loopF set body (downFrom j.toNat) e1 else none
  | _ => none
/-- the first place of a number -/
def idxOf (ns : List Int) (z : Int) : Option Nat := ns.findIdx? fun y => decide (y = z)
def gIndex : D → D → Option D
  | .lst ds, .int z => (match intsD ds with
    | some ns => (match idxOf ns z with
      | some j => some (.int (j : Int))
      | none => none)
    | none => none)
  | _, _ => none
section
variable {X : Cx} {c : Ct} {tg a : Expr} {body : List Stmt} {pos p p2 q q2 : Pos} {set : FG} {fb : FS} {f : M D}
theorem fs_forRev (hp : PassesOwn (model X.prog X.w) X.A X.env X.xe) (hc : X.calm = true) (ha : FE X c a f) (hg : FGt X c tg set) (hb : FSs X c body fb) (gr : Gl X "reversed") (hmr : X.mg "reversed" = none) (gl : Gl X "range") (hm : X.mg "range" = none)
    (na : starEach [a] X.env = (false, eval a X.env) :: starEach [] X.env := by rfl) (nr : starEach [.Call (.Name "range" p2) [a] [] q2] X.env = (false, eval (.Call (.Name "range" p2) [a] [] q2) X.env) :: starEach [] X.env := by rfl)
    (hs2 : ∀ x, foldedSetIterable (.Call (.Name "reversed" p) [.Call (.Name "range" p2) [a] [] q2] [] q) X.env x = pure x := by intro _; rfl) :
    FSt X c (.For tg (.Call (.Name "reversed" p) [.Call (.Name "range" p2) [a] [] q2] [] q) body [] pos) (sForRev f set fb) :=
  (ps_for hp hc (pi_revR gr hmr (prg_1 gl hm ha na) nr) hg hb hs2).weak fun D' σ H ⟨S, env, o, E, e1, k⟩ => by
    unfold sForRev at e1
    split at e1
    · rename_i j e2 qa
      split at e1
      · rename_i hj
        unfold rgOk at hj
        simp only [Bool.and_eq_true, decide_eq_true_eq] at hj
        refine ⟨S, env, _, e2, E, qa, fun S1 H1 v E1 s1 r1 => ?_⟩
        cases r1
        have b1 : (0 : Int) < 2 ^ 62 := by decide
        have b0 : (-(2 ^ 62) : Int) ≤ 0 := by decide
        refine ⟨j, rfl, b0, b1, by omega, by omega, ?_⟩
        have ej : (j - 0).toNat = j.toNat := by rw [Int.sub_zero]
        have el : (0 : Int) + (((j - 0).toNat : Nat) : Int) - 1 = ((j.toNat : Nat) : Int) - 1 := by rw [ej, Int.zero_add]
        rw [el, ej]
        refine for_rangeC (lo := ((j.toNat : Nat) : Int) - 1) (c := -1) (n := j.toNat) (fun k σ H => ∃ S2 e, Er X.K c S2 H σ e ∧ Same S1 S2 ∧ loopF set fb ((downFrom j.toNat).drop k) e = some o) ⟨S1, e2, E1, Same.refl _, by rw [List.drop_zero]; exact e1⟩ ?_ ?_
        · rintro k' σ' H' hi ⟨S2, e, E2, s2, q2⟩
          unfold downFrom at q2
          rw [stepTo_drop hi] at q2
          exact loop_turn (S := S1) E2 s2 (.int _) q2 (fun S3 H3 σ3 e3 E3 s3 q3 => ⟨S3, e3, E3, s3, q3⟩) (k.mono s1)
        · rintro σ' H' ⟨S2, e, E2, s2, q2⟩
          rw [List.drop_eq_nil_of_le (by unfold downFrom stepTo; simp)] at q2
          cases q2
          exact k S2 H' σ' E2 (s1.trans s2)
      · cases e1
    · cases e1
end
section
variable {X : Cx} {c : Ct} {o e : Expr} {apos cpos : Pos} {fo fe : M D}
theorem idxOf_some {ns : List Int} {z : Int} {j : Nat} (h : idxOf ns z = some j) : ns[j]? = some z ∧ ∀ m, m < j → ns[m]? ≠ some z := by
  unfold idxOf at h
  rw [List.findIdx?_eq_some_iff_getElem] at h
  obtain ⟨hj, h1, h2⟩ := h
  refine ⟨?_, fun m hm e => ?_⟩
  · rw [List.getElem?_eq_getElem hj]
    exact congrArg some (of_decide_eq_true h1)
  · have := h2 m hm
    obtain ⟨hl, he⟩ := List.getElem?_eq_some_iff.mp e
    rw [he] at this
    simp at this
theorem f_index (ho : FE X c o fo) (he : FE X c e fe) (hbase : attributeBase o "index" X.env (eval o X.env) = eval o X.env := by rfl)
    (hfew : ((backTo cpos (starEach [e] X.env)).all (fun x => !x.1) && (backToKw cpos (keywordEach [] X.env)).all (fun x => x.1.isSome) && decide (([e] : List Expr).length + ([] : List Keyword).length + (if ([] : List Keyword).isEmpty then 0 else 1) < 30)) = true := by rfl)
    (hline : (apos.endLine == cpos.line) = true := by rfl) (hs : starEach [e] X.env = (false, eval e X.env) :: starEach [] X.env := by rfl) (hpl : (backTo cpos (starEach ([] : List Expr) X.env)).any (·.1) = false := by rfl) :
    FE X c (.Call (.Attribute o "index" apos) [e] [] cpos) (m2 gIndex fo fe) :=
  (pe_bm PySem.F.plainAttrs_list PySem.F.slot_list_index PySem.F.type_list_index (mt_index (X := X)) ho (pa_cons he pa_nil hs) hbase hfew hline hs hpl).weak fun σ H Q ⟨S, env, d, env', E, e1, kk⟩ => by
    unfold m2 at e1
    split at e1
    · cases e1
    · rename_i da ea qa
      split at e1
      · cases e1
      · rename_i db eb qb
        split at e1
        · cases e1
        · rename_i z qz
          cases e1
          refine ⟨S, env, da, ea, E, qa, fun S1 H1 v1 E1 s1 r1 => ?_⟩
          unfold gIndex at qz
          split at qz
          · rename_i ds z
            split at qz
            · rename_i ns qn
              split at qz
              · rename_i j qj
                cases qz
                have eds := FL.ints_map qn
                subst eds
                cases r1 with
                | lst hv rv =>
                  have ev := rv.ints
                  subst ev
                  obtain ⟨i1, i2⟩ := idxOf_some qj
                  refine ⟨.inl ⟨rfl, _, .of (E1.sub _ _ hv)⟩, S1, ea, _, _, E1, qb, fun S2 H2 u E2 s2 r2 => ?_⟩
                  cases r2
                  refine ⟨_, ns.map V.int, .int z, j, .int z, rfl, rfl, .of (E2.sub _ _ (s2 _ _ hv)), rfl, ?_, by rw [List.getElem?_map, i1]; rfl, ?_, fun m z' hm hz' => ?_, kk S2 H2 _ E2 (s1.trans s2) (.int _)⟩
                  · rw [List.all_eq_true]
                    intro x hx
                    obtain ⟨n, _, rfl⟩ := List.mem_map.mp hx
                    rfl
                  · simp [eqV]
                  · rw [List.getElem?_map] at hz'
                    cases en : ns[m]? with
                    | none => rw [en] at hz'; cases hz'
                    | some n =>
                      rw [en] at hz'
                      cases hz'
                      have := i2 m hm
                      rw [en] at this
                      have hne : n ≠ z := fun e => this (by rw [e])
                      simp [eqV, hne]
              · cases qz
            · cases qz
          · cases qz
end
end FL

set_option Elab.async false
set_option linter.all false
set_option maxRecDepth 100000
set_option maxHeartbeats 4000000
/-! ## rows of numbers, each its own list -/
namespace FL
open PySem PySem.Spec PyProof.Rows L2
/-- nobody's objects among the slots -/
def noOw (e : En) : Bool := e.all fun s => !isOw s
theorem noOw_at {e : En} (h : noOw e = true) {i : Nat} {f : Bool} {d : D} : e[i]? ≠ some (.ow f d) := fun z => by
  have := List.all_eq_true.mp h _ (List.mem_of_getElem? z)
  simp [isOw] at this
theorem noOw_set {e : En} {i : Nat} {s : Sl} (h : noOw e = true) (hs : isOw s = false) : noOw (e.set i s) = true := by
  unfold noOw at h ⊢
  rw [List.all_eq_true] at h ⊢
  intro x hx
  rcases List.mem_or_eq_of_mem_set hx with hx | rfl
  · exact h x hx
  · simp [hs]
def c0 (S H : Hp) : Ct := ⟨fun _ => none, S, H⟩
section
variable {K : PySem.W.Frag} {L : Nat → Option Addr} {S0 H0 S H S' H' : Hp} {σ σ' : L2.St} {env env' : En}
theorem ER.base (E : ER K L S0 H0 S H σ env) (ho : noOw env = true) : Er K (c0 S H) S H σ env := by
  refine ⟨E.sub, E.len, E.sh, fun i f d q => absurd q (noOw_at ho), fun i j f g d e p hij q1 q2 q3 => absurd q1 (noOw_at ho), Same.refl _, fun _ z => z, fun _ _ z _ => z, fun _ z => .inl z, fun i p q => (by cases q), fun i p q => (by cases q)⟩
/-- work that began there, seen from where the whole began -/
theorem ER.comp (E : ER K L S0 H0 S H σ env) (ho : noOw env = true) (E' : Er K (c0 S H) S' H' σ' env') : ER K L S0 H0 S' H' σ' env' := by
  have nl : ∀ i p, L i ≠ some p := fun i p z => by
    obtain ⟨_, d, q⟩ := E.lnt i p z
    exact noOw_at ho q
  refine ⟨E'.sub, E'.len, E'.sh, fun i f d q => ?_, E'.dis, E.s0.trans E'.s0, fun b q => E'.dom b (E.dom b q), fun b o q hl => E'.kep b o (E.kep b o q hl) fun i z => (by cases z), fun b q => ?_, fun i p q => absurd q (nl i p), E.lsd⟩
  · obtain ⟨p, a, b, d', w⟩ := E'.ow i f d q
    refine ⟨p, a, b, d', ?_⟩
    cases f with
    | true =>
      rw [if_pos rfl] at w ⊢
      cases e : H0 p with
      | none => rfl
      | some o => exact absurd w (E.dom p (by rw [e]; exact fun z => nomatch z))
    | false =>
      rw [if_neg (by decide)] at w
      cases w
  · rcases E'.frs b q with z | z
    · exact E.frs b z
    · refine .inr ?_
      cases e : H0 b with
      | none => rfl
      | some o => exact absurd z (E.dom b (by rw [e]; exact fun z => nomatch z))
theorem ER.keepH (E' : Er K (c0 S H) S' H' σ' env') : Same H H' := fun b o q => E'.kep b o q fun i z => (by cases z)
/-- an object that stands is held still from now on -/
theorem ER.hold (E : ER K L S0 H0 S H σ env) (ho : noOw env = true) {q : Addr} {o : HO} (hS : S q = none) (hH : H q = some o) (h0 : H0 q = none) : ER K L S0 H0 (upd S q o) H σ env := by
  refine ⟨fun b u z => ?_, E.len, fun i d z => ?_, fun i f d z => absurd z (noOw_at ho), fun i j f g d e p hij q1 q2 q3 => absurd q1 (noOw_at ho), fun b u z => same_upd hS b u (E.s0 b u z), E.dom, E.kep, fun b z => ?_, E.lnt, E.lsd⟩
  · by_cases hb : b = q
    · subst hb; rw [upd_same] at z; cases z; exact hH
    · rw [upd_ne hb] at z; exact E.sub b u z
  · obtain ⟨v, a, r⟩ := E.sh i d z
    exact ⟨v, a, r.mono (same_upd hS)⟩
  · by_cases hb : b = q
    · subst hb; exact .inr h0
    · rw [upd_ne hb] at z; exact E.frs b z
end
/-- rows of numbers stand at p: a list of lists, each of them apart -/
structure Mat (S H0 H : Hp) (p : Addr) (ps : List Addr) (rows : List (List Int)) : Prop where
  len : ps.length = rows.length
  top : H p = some (.lst (ps.map V.ref))
  row : ∀ (i : Nat) (q : Addr) (r : List Int), ps[i]? = some q → rows[i]? = some r → H q = some (.lst (r.map V.int))
  nd : (p :: ps).Nodup
  out : ∀ q, q ∈ p :: ps → S q = none ∧ H0 q = none
section
variable {K : PySem.W.Frag} {S H0 H S' H' : Hp} {p : Addr} {ps : List Addr} {rows : List (List Int)} {σ : L2.St} {env : En}
theorem Mat.there (M : Mat S H0 H p ps rows) {q : Addr} (hq : q ∈ p :: ps) : H q ≠ none := by
  rcases List.mem_cons.mp hq with rfl | hq
  · rw [M.top]; exact fun z => nomatch z
  · obtain ⟨i, hi⟩ := List.mem_iff_getElem?.mp hq
    have hl : i < rows.length := by rw [← M.len]; exact (List.getElem?_eq_some_iff.mp hi).1
    rw [M.row i q rows[i] hi (List.getElem?_eq_getElem hl)]
    exact fun z => nomatch z
/-- others have worked -/
theorem Mat.kept (M : Mat S H0 H p ps rows) (E : Er K (c0 S H) S' H' σ env) : Mat S' H0 H' p ps rows := by
  have kh := ER.keepH E
  refine ⟨M.len, kh _ _ M.top, fun i q r a b => kh _ _ (M.row i q r a b), M.nd, fun q hq => ⟨?_, (M.out q hq).2⟩⟩
  cases e : S' q with
  | none => rfl
  | some o =>
    rcases E.frs q (by rw [e]; exact fun z => nomatch z) with z | z
    · exact absurd (M.out q hq).1 z
    · exact absurd z (M.there hq)
/-- a number of a row is changed -/
theorem Mat.put (M : Mat S H0 H p ps rows) {i j : Nat} {q : Addr} {r : List Int} {z : Int} (hq : ps[i]? = some q) (hr : rows[i]? = some r) : Mat S H0 (upd H q (.lst ((r.set j z).map V.int))) p ps (rows.set i (r.set j z)) := by
  have hmem : q ∈ ps := List.mem_of_getElem? hq
  have hne : p ≠ q := fun e => by
    have := (List.nodup_cons.mp M.nd).1
    rw [e] at this
    exact this hmem
  have nd2 := (List.nodup_cons.mp M.nd).2
  refine ⟨by rw [List.length_set]; exact M.len, by rw [upd_ne hne]; exact M.top, fun i' q' r' a b => ?_, M.nd, M.out⟩
  by_cases hi : i' = i
  · subst hi
    rw [hq] at a
    cases a
    have hl : i' < rows.length := (List.getElem?_eq_some_iff.mp hr).1
    rw [List.getElem?_set_self hl] at b
    cases b
    exact upd_same
  · rw [List.getElem?_set_ne (Ne.symm hi)] at b
    have hqq : q' ≠ q := fun e => by
      subst e
      obtain ⟨h1, e1⟩ := List.getElem?_eq_some_iff.mp a
      obtain ⟨h2, e2⟩ := List.getElem?_eq_some_iff.mp hq
      have pw := List.pairwise_iff_getElem.mp nd2
      rcases Nat.lt_trichotomy i' i with h | h | h
      · exact pw i' i h1 h2 h (e1.trans e2.symm)
      · exact hi h
      · exact pw i i' h2 h1 h (e2.trans e1.symm)
    rw [upd_ne hqq]
    exact M.row i' q' r' a b
theorem ER.matPut {c : Ct} (E : Er K c S H σ env) (ho : noOw env = true) (M : Mat S c.H0 H p ps rows) {q : Addr} {o : HO} (hq : q ∈ p :: ps) : Er K c S (upd H q o) σ env := by
  obtain ⟨hS, h0⟩ := M.out q hq
  exact ER.side E hS h0 fun j f e z => absurd z (noOw_at ho)
/-- the rows are let go: held still from now on -/
theorem Mat.freeze {c : Ct} : ∀ (ps : List Addr) (rows : List (List Int)) (S : Hp), Er K c S H σ env → noOw env = true → ps.length = rows.length → ps.Nodup → (∀ q ∈ ps, S q = none ∧ c.H0 q = none) → (∀ (i : Nat) (q : Addr) (r : List Int), ps[i]? = some q → rows[i]? = some r → H q = some (.lst (r.map V.int))) →
    ∃ S', Er K c S' H σ env ∧ Same S S' ∧ RelDs K S' (rows.map fun r => .lst (r.map D.int)) (ps.map V.ref) ∧ ∀ b, b ∉ ps → S' b = S b
  | [], [], S, E, _, _, _, _, _ => ⟨S, E, Same.refl _, .nil, fun _ _ => rfl⟩
  | [], _ :: _, _, _, _, h, _, _, _ => by simp at h
  | _ :: _, [], _, _, _, h, _, _, _ => by simp at h
  | q :: ps, r :: rows, S, E, ho, hl, hn, hs, hr => by
    obtain ⟨n1, n2⟩ := List.nodup_cons.mp hn
    have hq := hr 0 q r rfl rfl
    have E1 := ER.hold E ho (hs q (by simp)).1 hq (hs q (by simp)).2
    obtain ⟨S', E2, s2, rr, k2⟩ := Mat.freeze ps rows (upd S q (.lst (r.map V.int))) E1 ho (by simpa using hl) n2 (fun x hx => by
      rw [upd_ne (fun e => by subst e; exact n1 hx)]
      exact hs x (List.mem_cons_of_mem _ hx)) fun i x y a b => hr (i + 1) x y a b
    refine ⟨S', E2, (same_upd (hs q (by simp)).1).trans s2, .cons (.lst (s2 _ _ upd_same) (RelDs.of_ints _)) rr, fun b hb => ?_⟩
    simp only [List.mem_cons, not_or] at hb
    rw [k2 b hb.2, upd_ne hb.1]
theorem Mat.done {c : Ct} (E : Er K c S H σ env) (ho : noOw env = true) (M : Mat S c.H0 H p ps rows) : ∃ S', Er K c S' H σ env ∧ Same S S' ∧ RelD K S' (.lst (rows.map fun r => .lst (r.map D.int))) (.ref p) := by
  obtain ⟨n1, n2⟩ := List.nodup_cons.mp M.nd
  obtain ⟨S', E1, s1, rr, k1⟩ := Mat.freeze ps rows S E ho M.len n2 (fun q hq => M.out q (List.mem_cons_of_mem _ hq)) M.row
  have hp : S' p = none := by rw [k1 p n1]; exact (M.out p (by simp)).1
  refine ⟨_, ER.hold E1 ho hp M.top (M.out p (by simp)).2, s1.trans (same_upd hp), .lst upd_same (rr.mono (same_upd hp))⟩
end
end FL

set_option Elab.async false
set_option linter.all false
set_option maxRecDepth 100000
set_option maxHeartbeats 4000000
/-! ## rows = [[0] * e for x in xs] -/
namespace FL
open PySem PySem.Spec PyProof.Rows L2
theorem Mat.snoc {S H0 H : Hp} {p q : Addr} {ps : List Addr} {rows : List (List Int)} {r : List Int} (M : Mat S H0 H p ps rows) (hq : H q = none) (hS : S q = none) (h0 : H0 q = none) :
    Mat S H0 (upd (upd H q (.lst (r.map V.int))) p (.lst ((ps ++ [q]).map V.ref))) p (ps ++ [q]) (rows ++ [r]) := by
  have ne : ∀ x, x ∈ p :: ps → x ≠ q := fun x hx e => by
    subst e
    exact M.there hx hq
  obtain ⟨n1, n2⟩ := List.nodup_cons.mp M.nd
  refine ⟨by simp [M.len], upd_same, fun i x y a b => ?_, ?_, fun x hx => ?_⟩
  · by_cases hi : i < ps.length
    · rw [List.getElem?_append_left hi] at a
      rw [List.getElem?_append_left (by rw [← M.len]; exact hi)] at b
      have hx : x ∈ ps := List.mem_of_getElem? a
      rw [upd_ne (fun e => by subst e; exact n1 hx), upd_ne (ne x (List.mem_cons_of_mem _ hx))]
      exact M.row i x y a b
    · have hl : i = ps.length := by
        have := (List.getElem?_eq_some_iff.mp a).1
        rw [List.length_append, List.length_singleton] at this
        omega
      subst hl
      rw [List.getElem?_append_right (Nat.le_refl _), Nat.sub_self] at a
      rw [List.getElem?_append_right (by rw [M.len]; exact Nat.le_refl _), M.len, Nat.sub_self] at b
      cases a
      cases b
      rw [upd_ne (Ne.symm (ne p (by simp))), upd_same]
  · refine List.nodup_cons.mpr ⟨fun h => ?_, ?_⟩
    · rcases List.mem_append.mp h with h | h
      · exact n1 h
      · exact ne p (by simp) (List.mem_singleton.mp h)
    · rw [List.nodup_append]
      refine ⟨n2, by simp, fun a ha b hb e => ?_⟩
      rw [List.mem_singleton.mp hb] at e
      exact ne a (List.mem_cons_of_mem _ ha) e
  · rcases List.mem_cons.mp hx with rfl | hx
    · exact M.out _ (by simp)
    · rcases List.mem_append.mp hx with hx | hx
      · exact M.out _ (List.mem_cons_of_mem _ hx)
      · rw [List.mem_singleton.mp hx]
        exact ⟨hS, h0⟩
theorem Mat.nil {S H0 H : Hp} {p : Addr} (hp : H p = none) (hS : S p = none) (h0 : H0 p = none) : Mat S H0 (upd H p (.lst [])) p [] [] :=
  ⟨rfl, upd_same, fun i q r a b => by simp at a, by simp, fun q hq => by rw [List.mem_singleton.mp hq]; exact ⟨hS, h0⟩⟩
/-- how long each row is to be -/
def widthsF (fw : M D) (iK : Nat) (env : En) : List D → Option (List Nat)
  | [] => some []
  | d :: r => match fw ((wipeE [iK] env).set iK (.sh d)) with
    | some (.int w, _) => if 0 ≤ w ∧ w ≤ 1000000 then (match widthsF fw iK env r with
      | some ws => some (w.toNat :: ws)
      | none => none) else none
    | _ => none
def zeros (n : Nat) : List Int := List.replicate n 0
theorem zeros_V (n : Nat) : (List.replicate n [V.int 0]).flatten = (zeros n).map V.int := by
  unfold zeros
  induction n with
  | zero => rfl
  | succ n ih =>
    rw [List.replicate_succ, List.flatten_cons, ih, List.replicate_succ]
    rfl
/-- the list [0] -/
abbrev tZero : TE := tLst (tCons (tC (.int 0)) tNil)
section
variable {K : PySem.W.Frag} {c : Ct} {S H S1 : Hp} {σ : L2.St} {env : En} {iK : Nat} {fw : M D}
/-- one row more -/
theorem rows_turn {d : D} {v : V} {Dd : Addr} {ps : List Addr} {rows : List (List Int)} {w : Int} {e2 : En} (E : Er K c S H σ env) (ho : noOw env = true) (M : Mat S c.H0 H Dd ps rows) (rd : RelD K S d v) (qw : fw ((wipeE [iK] env).set iK (.sh d)) = some (.int w, e2)) (hw : 0 ≤ w ∧ w ≤ 1000000) (hlen : rows.length < 1000000)
    (Pn : Hp → Prop) (nx : ∀ S2 H2 ps2, Er K c S2 H2 σ env → Same S S2 → Mat S2 c.H0 H2 Dd ps2 (rows ++ [zeros w.toNat]) → Pn H2) :
    gName iK v (wipe σ [iK]) H fun σ2 H2 => wipe σ2 [iK] = wipe σ [iK] ∧ eT K mYes σ2 H2 fun b H3 => if b = true then tOp rRep tZero (eE K fw) σ2 H3 fun y H4 => ∃ acc, H4 Dd = some (.lst acc) ∧ acc.length < sizeLine ∧ Pn (upd H4 Dd (.lst (acc ++ [y]))) else Pn H3 := by
  have E0 := ER.base E ho
  have E1 := ER.wipes [iK] E0 fun i _ p z => by cases z
  have ho1 : noOw ((wipeE [iK] env).set iK (.sh d)) = true := noOw_set (noOw_set ho rfl) rfl
  have E2 := E1.put (i := iK) (d := d) (v := v) (fun e z => noOw_at (noOw_set ho rfl) z) rd
  refine ⟨(wipe_set (vs := [iK]) (List.mem_singleton.mpr rfl)).trans (wipe_self fun _ h => h), c0 S H, S, _, true, _, E2, rfl, fun S3 H3 E3 s3 => ?_⟩
  refine iteT ⟨by show (1 : Nat) ≤ sizeLine; decide, fun p0 hp0 => ?_⟩
  have E4 := E3.lay (.lst [V.int 0]) hp0
  refine ⟨c0 S3 (upd H3 p0 (.lst [V.int 0])), S3, _, .int w, e2, ER.base E4 ho1, qw, fun S5 H5 v5 E5 s5 r5 => ?_⟩
  cases r5
  have k5 := ER.keepH E5
  have E45 := ER.comp E4 ho1 E5
  have w1 : (-(2 ^ 63) : Int) ≤ w := Int.le_trans (by decide) hw.1
  have w2 : w < 2 ^ 63 := Int.lt_of_le_of_lt hw.2 (by decide)
  refine ⟨p0, w, [V.int 0], rfl, rfl, k5 _ _ upd_same, w1, w2, ?_, fun p1 hp1 => ?_⟩
  · show 1 * w.toNat ≤ sizeLine
    have : (1000000 : Nat) ≤ sizeLine := by decide
    omega
  · have M5 := M.kept E45
    have ne1 : ∀ x, x ∈ Dd :: ps → x ≠ p1 := fun x hx e => by
      subst e
      exact M5.there hx hp1
    have Eg := E.grow E45.s0 E45.sub (fun x hx => E45.dom x hx) (ER.keepH E45) (fun x hx => E45.frs x hx)
    have hS1 : S5 p1 = none := E45.sub.free hp1
    have h01 : c.H0 p1 = none := by
      cases e : c.H0 p1 with
      | none => rfl
      | some o => exact absurd hp1 (Eg.dom p1 (by rw [e]; exact fun z => nomatch z))
    refine ⟨ps.map V.ref, ?_, ?_, ?_⟩
    · rw [upd_ne (ne1 Dd (by simp))]
      exact M5.top
    · rw [List.length_map, M.len]
      exact Nat.lt_of_lt_of_le hlen (by decide)
    · rw [zeros_V]
      have Ms := M5.snoc (r := zeros w.toNat) hp1 hS1 h01
      have ex : ps.map V.ref ++ [V.ref p1] = (ps ++ [p1]).map V.ref := by simp
      rw [ex]
      refine nx S5 _ _ ?_ E45.s0 Ms
      have Ea := Eg.lay (.lst ((zeros w.toNat).map V.int)) hp1
      exact ER.side Ea (M5.out Dd (by simp)).1 (M5.out Dd (by simp)).2 fun j f e z => absurd z (noOw_at ho)
/-- what the statement hands on -/
def tRows (K : PySem.W.Frag) (fl fw : M D) (iK iR : Nat) : TS := fun Dn σ H => ∃ (c : Ct) (S : Hp) (env env1 : En) (ds : List D) (ws : List Nat), Er K c S H σ env ∧ noOw env = true ∧ fl env = some (.lst ds, env1) ∧ noOw env1 = true ∧ widthsF fw iK env1 ds = some ws ∧ ds.length ≤ 1000000 ∧
  ∀ S' H' p ps, Er K c S' H' σ env1 → Same S S' → Mat S' c.H0 H' p ps (ws.map zeros) → Dn.nx (σ.set iR (some (.ref p))) H'
theorem widths_len : ∀ {ds : List D} {ws : List Nat}, widthsF fw iK env ds = some ws → ws.length = ds.length
  | [], ws, h => by cases h; rfl
  | d :: r, ws, h => by
    unfold widthsF at h
    split at h
    · split at h
      · split at h
        · rename_i q
          cases h
          rw [List.length_cons, List.length_cons, widths_len q]
        · cases h
      · cases h
    · cases h
theorem t_rows {fl : M D} {iR : Nat} (Dn : Ends) (σ : L2.St) (H : Hp) (h : tRows K fl fw iK iR Dn σ H) : tAsg (tLc (iList K (eE K fl)) (gName iK) (eT K mYes) (tOp rRep tZero (eE K fw)) [iK]) (gName iR) Dn σ H := by
  obtain ⟨c, S, env0, env, ds, ws, E, ho0, ql, ho, qw, hl, kk⟩ := h
  refine ⟨c0 S H, S, env0, _, env, ER.base E ho0, ql, fun S1 H1 v E1 s1 r1 => ?_⟩
  cases r1 with
  | lst hv rs =>
    rename_i a us
    have Ec := ER.comp E ho0 E1
    refine ⟨a, rfl, ⟨us, .of (E1.sub _ _ hv)⟩, fun Dd hD => ?_⟩
    have hS1 : S1 Dd = none := E1.sub.free hD
    have h01 : c.H0 Dd = none := by
      cases e : c.H0 Dd with
      | none => rfl
      | some o => exact absurd hD (Ec.dom Dd (by rw [e]; exact fun z => nomatch z))
    refine lc_list (xs := us) (fun i H => ∃ S2 ps rows wr, Er K c S2 H σ env ∧ Same S1 S2 ∧ Mat S2 c.H0 H Dd ps (rows.map zeros) ∧ widthsF fw iK env (ds.drop i) = some wr ∧ rows ++ wr = ws) ⟨S1, [], [], ws, Ec.lay _ hD, Same.refl _, Mat.nil hD hS1 h01, by rw [List.drop_zero]; exact qw, rfl⟩ ?_ ?_ ?_
    · rintro i H' _ ⟨S2, ps, rows, wr, E2, s2, M2, _⟩
      exact .of (E2.sub _ _ (s2 _ _ hv))
    · rintro i x H' hx ⟨S2, ps, rows, wr, E2, s2, M2, q2, hy⟩
      have hi : i < ds.length := by rw [rs.length]; exact (List.getElem?_eq_some_iff.mp hx).1
      rw [List.drop_eq_getElem_cons hi] at q2
      obtain ⟨x', hx', rx⟩ := rs.get (List.getElem?_eq_getElem hi)
      rw [hx] at hx'; cases hx'
      unfold widthsF at q2
      split at q2
      · rename_i w e2 qe
        split at q2
        · rename_i hw
          split at q2
          · rename_i ws2 q3
            cases q2
            have hb : rows.length < 1000000 := by
              have h1 := congrArg List.length hy
              rw [List.length_append, List.length_cons, widths_len qw] at h1
              omega
            refine rows_turn E2 ho M2 (rx.mono s2) qe hw (by rw [List.length_map]; exact hb) (fun H => ∃ S2 ps rows wr, Er K c S2 H σ env ∧ Same S1 S2 ∧ Mat S2 c.H0 H Dd ps (rows.map zeros) ∧ widthsF fw iK env (ds.drop (i + 1)) = some wr ∧ rows ++ wr = ws) fun S3 H3 ps3 E3 s3 M3 => ⟨S3, ps3, rows ++ [w.toNat], ws2, E3, s2.trans s3, ?_, q3, by simp [hy.symm]⟩
            rw [List.map_append]
            exact M3
          · cases q2
        · cases q2
      · cases q2
    · rintro H' ⟨S2, ps, rows, wr, E2, s2, M2, q2, hy⟩
      rw [List.drop_eq_nil_of_le (by rw [rs.length]; exact Nat.le_refl _)] at q2
      cases q2
      rw [List.append_nil] at hy
      subst hy
      exact kk S2 H' Dd ps E2 (s1.trans s2) M2
end
end FL

set_option Elab.async false
set_option linter.all false
set_option maxRecDepth 100000
set_option maxHeartbeats 4000000
/-! ## rows[i][j] += a, in a loop -/
namespace FL
open PySem PySem.Spec PyProof.Rows L2
/-- xs[i] by values, i from 0 on -/
def rGetL (K : PySem.W.Frag) : V → V → Hp → VK → Prop := fun o i H Q => ∃ q xs a x, o = .ref q ∧ i = .int a ∧ SqL K H q xs ∧ 0 ≤ a ∧ xs[a.toNat]? = some x ∧ Q x H
theorem get_list {X : Cx} : PGet X (rGetL X.K) := by
  intro pins s σ H o i ov iv Q I ro ri h
  obtain ⟨q, xs, a, x, rfl, rfl, hq, ha, hx, k⟩ := h
  cases ro
  obtain ⟨t, rfl⟩ := ri
  obtain ⟨its, r, pl, hz⟩ := I.list hq
  obtain ⟨w, ew, rw'⟩ := r.get hx
  have hl : a.toNat < xs.length := (List.getElem?_eq_some_iff.mp hx).1
  have hn : (sizeLine : Nat) < 2 ^ 63 := by decide
  exact wpAny_getItem_list pl.isList ha (by omega) (by simpa using ew) ⟨x, H, I, rw', k⟩
/-- one number of a row and its place, by the slots -/
def bump (iRow iAt iAm : Nat) (rows : List (List Int)) (e : En) : Option (List (List Int)) := match e[iRow]?, e[iAt]?, e[iAm]? with
  | some (.sh (.int r)), some (.sh (.int a)), some (.sh (.int m)) => if 0 ≤ r ∧ 0 ≤ a then (match rows[r.toNat]? with
    | some row => (match row[a.toNat]? with
      | some x => some (rows.set r.toNat (row.set a.toNat (x + m)))
      | none => none)
    | none => none) else none
  | _, _, _ => none
/-- one turn -/
def matT (set : FG) (f1 f2 : M D) (ft : M Bool) (iRow iAt iAm : Nat) (d : D) (rows : List (List Int)) (e : En) : Option (List (List Int) × En) := match set d e with
  | some e1 => (match f1 e1 with
    | some (.int r, e2) => (match f2 (e2.set iRow (.sh (.int r))) with
      | some (.int a, e3) => (match ft (e3.set iAt (.sh (.int a))) with
        | some (b, e4) => bif noOw e1 && noOw e2 && noOw e3 && noOw e4 then (bif b then (match bump iRow iAt iAm rows e4 with
          | some rows' => some (rows', e4)
          | none => none) else some (rows, e4)) else none
        | none => none)
      | _ => none)
    | _ => none)
  | none => none
def matF (set : FG) (f1 f2 : M D) (ft : M Bool) (iRow iAt iAm : Nat) : List D → List (List Int) → En → Option (List (List Int) × En)
  | [], rows, e => some (rows, e)
  | d :: ds, rows, e => match matT set f1 f2 ft iRow iAt iAm d rows e with
    | some (rows', e') => matF set f1 f2 ft iRow iAt iAm ds rows' e'
    | none => none
theorem wipe_at {σ σ' : L2.St} {vs : List Nat} (h : wipe σ' vs = wipe σ vs) {i : Nat} (hi : i ∉ vs) : σ'[i]? = σ[i]? := by
  have key : ∀ (vs : List Nat) (τ : L2.St), i ∉ vs → (wipe τ vs)[i]? = τ[i]? := by
    intro vs
    induction vs with
    | nil => intro τ _; rfl
    | cons j r ih =>
      intro τ hj
      simp only [List.mem_cons, not_or] at hj
      show ((wipe τ r).set j none)[i]? = _
      rw [List.getElem?_set_ne (Ne.symm hj.1)]
      exact ih τ hj.2
  rw [← key vs σ' hi, ← key vs σ hi, h]
/-- the body, by its parts -/
abbrev tBody (K : PySem.W.Frag) (f1 f2 : M D) (ft : M Bool) (iR iRow iAt iAm : Nat) : TS :=
  tSeq (tAsg (eE K f1) (gName iRow)) (tSeq (tAsg (eE K f2) (gName iAt)) (tIfS (eT K ft) (tAugS (tOp (rIxL K) (tVar iR) (tVar iRow)) (tVar iAt) (tVar iAm) (rGetL K) (ipI fun i j => i + j) rSetL) tNext))
section
variable {K : PySem.W.Frag} {c : Ct} {S H : Hp} {σ : L2.St} {env : En} {set : FG} {g : TG} {vs : List Nat} {f1 f2 : M D} {ft : M Bool} {iR iRow iAt iAm : Nat} {p : Addr}
theorem mat_turn {d : D} {v : V} {ps : List Addr} {rows rows' : List (List Int)} {e' : En} (E : Er K c S H σ env) (ho : noOw env = true) (M : Mat S c.H0 H p ps rows) (hR : σ[iR]? = some (some (.ref p))) (rd : RelD K S d v)
    (q : matT set f1 f2 ft iRow iAt iAm d rows env = some (rows', e')) (n1 : iR ∉ vs) (n2 : iR ≠ iRow) (n3 : iR ≠ iAt)
    (hg : ∀ (c : Ct) (S H : Hp) (σ : L2.St) (env e' : En) (d : D) (v : V) (Q : L2.St → Hp → Prop), Er K c S H σ env → RelD K S d v → set d env = some e' → (∀ σ', Er K c S H σ' e' → wipe σ' vs = wipe σ vs → Q σ' H) → g v σ H Q)
    (Dn : Ends) (nx : ∀ S2 H2 σ2, Er K c S2 H2 σ2 e' → noOw e' = true → Same S S2 → Mat S2 c.H0 H2 p ps rows' → σ2[iR]? = some (some (.ref p)) → Dn.nx σ2 H2) :
    g v σ H fun σ2 H2 => tBody K f1 f2 ft iR iRow iAt iAm Dn σ2 H2 := by
  unfold matT at q
  split at q
  · rename_i e1 q1
    refine hg c S H σ env e1 d v _ E rd q1 fun σ1 E1 w1 => ?_
    have hR1 : σ1[iR]? = some (some (.ref p)) := (wipe_at w1 n1).trans hR
    split at q
    · rename_i r e2 q2
      split at q
      · rename_i a e3 q3
        split at q
        · rename_i b e4 q4
          cases hb : (noOw e1 && noOw e2 && noOw e3 && noOw e4) with
          | false => rw [hb] at q; cases q
          | true =>
            rw [hb] at q
            simp only [Bool.and_eq_true] at hb
            obtain ⟨⟨⟨o1, o2⟩, o3⟩, o4⟩ := hb
            refine ⟨c0 S H, S, e1, _, e2, ER.base E1 o1, q2, fun S2 H2 v2 E2 s2 r2 => ?_⟩
            have C2 := (ER.comp E1 o1 E2).put (i := iRow) (fun e z => noOw_at o2 z) r2
            have M2 := M.kept E2
            have ho2 : noOw (e2.set iRow (.sh (.int r))) = true := noOw_set o2 rfl
            refine ⟨c0 S2 H2, S2, _, _, e3, ER.base C2 ho2, q3, fun S3 H3 v3 E3 s3 r3 => ?_⟩
            have C3 := (ER.comp C2 ho2 E3).put (i := iAt) (fun e z => noOw_at o3 z) r3
            have M3 := M2.kept E3
            have ho3 : noOw (e3.set iAt (.sh (.int a))) = true := noOw_set o3 rfl
            refine ⟨c0 S3 H3, S3, _, _, e4, ER.base C3 ho3, q4, fun S4 H4 E4 s4 => ?_⟩
            have C4 := ER.comp C3 ho3 E4
            have M4 := M3.kept E4
            have hR4 : ((σ1.set iRow (some v2)).set iAt (some v3))[iR]? = some (some (.ref p)) := by
              rw [List.getElem?_set_ne (Ne.symm n3), List.getElem?_set_ne (Ne.symm n2)]
              exact hR1
            have s14 : Same S S4 := (s2.trans s3).trans s4
            cases b with
            | false =>
              cases q
              exact iteF (nx S4 H4 _ C4 o4 s14 M4 hR4)
            | true =>
              have q' : (match bump iRow iAt iAm rows e4 with
                | some rows' => some (rows', e4)
                | none => none) = some (rows', e') := q
              split at q'
              · rename_i rows2 q5
                cases q'
                unfold bump at q5
                split at q5
                · rename_i r0 a0 m0 x1 x2 x3
                  split at q5
                  · rename_i hn
                    split at q5
                    · rename_i row qr
                      split at q5
                      · rename_i x qx
                        cases q5
                        obtain ⟨vr, sr, rr⟩ := C4.sh iRow _ x1
                        obtain ⟨va, sa, ra⟩ := C4.sh iAt _ x2
                        obtain ⟨vm, sm, rm⟩ := C4.sh iAm _ x3
                        cases rr; cases ra; cases rm
                        have hl : r0.toNat < ps.length := by rw [M4.len]; exact (List.getElem?_eq_some_iff.mp qr).1
                        have hq := M4.row r0.toNat ps[r0.toNat] row (List.getElem?_eq_getElem hl) qr
                        have hix : atI (ps.map V.ref) r0 = some (V.ref ps[r0.toNat]) := by
                          have z := atI_nat (xs := ps.map V.ref) (j := r0.toNat) (v := V.ref ps[r0.toNat]) (by rw [List.getElem?_map, List.getElem?_eq_getElem hl]; rfl)
                          have e0 : ((r0.toNat : Nat) : Int) = r0 := Int.toNat_of_nonneg hn.1
                          rw [e0] at z
                          exact z
                        have hla : a0.toNat < row.length := (List.getElem?_eq_some_iff.mp qx).1
                        have hj : ixN (row.map V.int).length a0 = some a0.toNat := by
                          unfold ixN
                          rw [if_pos hn.2, if_pos (by rw [List.length_map]; omega)]
                        have hqn : ps[r0.toNat] ∈ p :: ps := List.mem_cons_of_mem _ (List.getElem_mem hl)
                        refine iteT ⟨_, hR4, _, sr, p, _, r0, _, rfl, rfl, .of M4.top, hix, _, sa, _, row.map V.int, a0, .int x, rfl, rfl, .of hq, hn.2, by rw [List.getElem?_map, qx]; rfl, _, sm, x, m0, rfl, rfl, _, row.map V.int, a0, a0.toNat, rfl, rfl, hq, hj, ?_⟩
                        have em : (row.map V.int).set a0.toNat (.int (x + m0)) = (row.set a0.toNat (x + m0)).map V.int := by rw [List.map_set]
                        rw [em]
                        exact nx S4 _ _ (ER.matPut C4 o4 M4 hqn) o4 s14 (M4.put (List.getElem?_eq_getElem hl) qr) hR4
                      · cases q5
                    · cases q5
                  · cases q5
                · cases q5
              · cases q'
        · cases q
      · cases q
    · cases q
  · cases q
end
/-- the four statements: rows of zeros, what is taken (fB), the loop over goods (fit), the rows returned -/
def sGains (fl fw fB fit : M D) (set : FG) (f1 f2 : M D) (ft : M Bool) (iK iR iT iRow iAt iAm : Nat) : FS := fun e => bif noOw e then (match fl e with
  | some (.lst ds, e1) => (match widthsF fw iK e1 ds with
    | some ws => (match fB (e1.set iR .un) with
      | some (.lst ts, e2) => (match fit (e2.set iT (.sh (.lst ts))) with
        | some (.lst gs, e3) => (match matF set f1 f2 ft iRow iAt iAm gs (ws.map zeros) e3 with
          | some (rows, e4) => bif noOw e1 && noOw e2 && noOw e3 && decide (ds.length ≤ 1000000) && decide (iT < e2.length) && decide (iR < e1.length) then some (.rt (.lst (rows.map fun r => .lst (r.map D.int))) e4) else none
          | none => none)
        | _ => none)
      | _ => none)
    | none => none)
  | _ => none) else none
end FL

set_option Elab.async false
set_option linter.all false
set_option maxRecDepth 100000
set_option maxHeartbeats 4000000
namespace FL
open PySem PySem.Spec PyProof.Rows L2
section
variable {X : Cx} {c : Ct}
theorem t_gains {fl fw fo elB fit : M D} {setB set : FG} {gB g : TG} {ownB : List (Str × Nat)} {vs : List Nat} {f1 f2 : M D} {ft : M Bool} {iK iR iT iRow iAt iAm : Nat}
    (hgB : ∀ (c : Ct) (S H : Hp) (σ : L2.St) (env e' : En) (d : D) (v : V) (Q : L2.St → Hp → Prop), Er X.K c S H σ env → RelD X.K S d v → setB d env = some e' → (∀ σ', Er X.K c S H σ' e' → wipe σ' (ownB.map (·.2)) = wipe σ (ownB.map (·.2)) → Q σ' H) → gB v σ H Q)
    (hg : ∀ (c : Ct) (S H : Hp) (σ : L2.St) (env e' : En) (d : D) (v : V) (Q : L2.St → Hp → Prop), Er X.K c S H σ env → RelD X.K S d v → set d env = some e' → (∀ σ', Er X.K c S H σ' e' → wipe σ' vs = wipe σ vs → Q σ' H) → g v σ H Q)
    (n1 : iR ∉ vs) (n2 : iR ≠ iRow) (n3 : iR ≠ iAt) (n4 : iR ≠ iT) (D' : Ends) (σ : L2.St) (H : Hp) (h : tS X.K c (sGains fl fw (mCompL fo setB mYes elB (ownB.map (·.2))) fit set f1 f2 ft iK iR iT iRow iAt iAm) D' σ H) :
    tSeq (tAsg (tLc (iList X.K (eE X.K fl)) (gName iK) (eT X.K mYes) (tOp rRep tZero (eE X.K fw)) [iK]) (gName iR))
      (tSeq (tAsg (tLc (iList X.K (eE X.K fo)) gB (eT X.K mYes) (eE X.K elB) (ownB.map (·.2))) (gName iT)) (tSeq (tFor (iList X.K (eE X.K fit)) g (tBody X.K f1 f2 ft iR iRow iAt iAm)) (tRet (tVar iR)))) D' σ H := by
  obtain ⟨S, env, o, E, e1, k⟩ := h
  unfold sGains at e1
  cases ho : noOw env with
  | false => rw [ho] at e1; cases e1
  | true =>
    rw [ho] at e1
    simp only [cond_true] at e1
    split at e1
    · rename_i ds ea qa
      split at e1
      · rename_i ws qw
        split at e1
        · rename_i ts e2 qB
          split at e1
          · rename_i gs e3 qit
            split at e1
            · rename_i rowsF e4 qm
              obtain ⟨hb, ho4⟩ := bif_some e1
              subst ho4
              simp only [Bool.and_eq_true, decide_eq_true_eq] at hb
              obtain ⟨⟨⟨⟨⟨oa, o2⟩, o3⟩, hlen⟩, hT⟩, hRl⟩ := hb
              refine t_rows _ σ H ⟨c, S, env, ea, ds, ws, E, ho, qa, oa, qw, hlen, fun S1 H1 p ps E1 s1 M1 => ?_⟩
              have E1f := ER.forget (i := iR) (x := some (.ref p)) E1 fun e z => noOw_at oa z
              have oaf : noOw (ea.set iR .un) = true := noOw_set oa rfl
              have hR1 : (σ.set iR (some (V.ref p)))[iR]? = some (some (.ref p)) := List.getElem?_set_self (by rw [← E1.len]; exact hRl)
              generalize σ.set iR (some (V.ref p)) = σ1 at E1f hR1 ⊢
              have key : tO X.K (c0 S1 H1) (mCompL fo setB mYes elB (ownB.map (·.2))) σ1 H1 fun x H2 => gName iT x σ1 H2 fun σ2 H2 => tSeq (tFor (iList X.K (eE X.K fit)) g (tBody X.K f1 f2 ft iR iRow iAt iAm)) (tRet (tVar iR)) D' σ2 H2 := by
                refine ⟨S1, _, _, e2, ER.base E1f oaf, qB, fun S2 H2 pt E2 s2 ow2 hS2 hH2 fr => ?_⟩
                have E3 := ER.putOwn (i := iT) E2 (fun e z => noOw_at o2 z) ow2 hS2 hH2 fun j f e _ q => fr j f e q
                obtain ⟨S3, p', E4, s3, _, _⟩ := ER.freeze (i := iT) E3 (List.getElem?_set_self hT)
                rw [List.set_set] at E4
                have M3 := M1.kept E4
                have E5 := ER.comp E1f oaf E4
                have o5 : noOw (e2.set iT (.sh (.lst ts))) = true := noOw_set o2 rfl
                have hR2 : (σ1.set iT (some (V.ref pt)))[iR]? = some (some (.ref p)) := by rw [List.getElem?_set_ne (Ne.symm n4)]; exact hR1
                show tSeq _ _ D' (σ1.set iT (some (V.ref pt))) H2
                generalize σ1.set iT (some (V.ref pt)) = σ2 at E5 E4 hR2 ⊢
                refine ⟨c0 S3 H2, S3, _, _, e3, ER.base E5 o5, qit, fun S6 H6 v6 E6 s6 r6 => ?_⟩
                have M6 := M3.kept E6
                have C6 := ER.comp E5 o5 E6
                cases r6 with
                | lst hv rs =>
                  rename_i a us
                  refine ⟨a, rfl, ⟨us, .of (E6.sub _ _ hv)⟩, for_list (xs := us) (fun i σ H => ∃ S rows env, Er X.K c S H σ env ∧ noOw env = true ∧ Same S6 S ∧ Mat S c.H0 H p ps rows ∧ σ[iR]? = some (some (.ref p)) ∧ matF set f1 f2 ft iRow iAt iAm (gs.drop i) rows env = some (rowsF, e4)) ⟨S6, _, e3, C6, o3, Same.refl _, M6, hR2, by rw [List.drop_zero]; exact qm⟩ ?_ ?_ ?_⟩
                  · rintro i σ' H' _ ⟨S7, rows, env7, E7, o7, s7, M7, hR7, q7⟩
                    exact .of (E7.sub _ _ (s7 _ _ hv))
                  · rintro i x σ' H' hx ⟨S7, rows, env7, E7, o7, s7, M7, hR7, q7⟩
                    have hi : i < gs.length := by rw [rs.length]; exact (List.getElem?_eq_some_iff.mp hx).1
                    rw [List.drop_eq_getElem_cons hi] at q7
                    obtain ⟨x', hx', rx⟩ := rs.get (List.getElem?_eq_getElem hi)
                    rw [hx] at hx'; cases hx'
                    unfold matF at q7
                    split at q7
                    · rename_i rows' env' qt
                      exact mat_turn E7 o7 M7 hR7 (rx.mono s7) qt n1 n2 n3 hg _ fun S8 H8 σ8 E8 o8 s8 M8 hR8 => ⟨S8, rows', env', E8, o8, s7.trans s8, M8, hR8, q7⟩
                    · cases q7
                  · rintro σ' H' ⟨S7, rows, env7, E7, o7, s7, M7, hR7, q7⟩
                    rw [List.drop_eq_nil_of_le (by rw [rs.length]; exact Nat.le_refl _)] at q7
                    cases q7
                    obtain ⟨S9, E9, s9, r9⟩ := Mat.done E7 o7 M7
                    refine ⟨_, hR7, ?_⟩
                    exact k S9 H' σ' _ E9 ((s1.trans (((s2.trans s3).trans s6).trans s7)).trans s9) r9
              have z := t_compL (X := X) (c := c0 S1 H1) (fi := fo) (set := setB) (t := mYes) (el := elB) (g := gB) (own := ownB) hgB σ1 H1 _ key
              exact ⟨c0 S1 H1, z⟩
            · cases e1
          · cases e1
        · cases e1
      · cases e1
    · cases e1
end
end FL

set_option Elab.async false
set_option linter.all false
set_option maxRecDepth 100000
set_option maxHeartbeats 4000000
namespace FL
open PySem PySem.Spec PyProof.Rows L2
theorem eT_pt {X : Cx} {e : Expr} {f : M Bool} (h : ∀ c, FT X c e f) : PT X e (eT X.K f) := ⟨fun pins s σ H Q I ⟨c, q⟩ => (h c).run pins s σ H Q I q⟩
theorem fs_gains {X : Cx} {c : Ct} {fl fw fo elB fit : M D} {setB set : FG} {gB g : TG} {ownB : List (Str × Nat)} {vs : List Nat} {f1 f2 : M D} {ft : M Bool} {iK iR iT iRow iAt iAm : Nat} {stA stB stC stD : Stmt}
    (hgB : ∀ (c : Ct) (S H : Hp) (σ : L2.St) (env e' : En) (d : D) (v : V) (Q : L2.St → Hp → Prop), Er X.K c S H σ env → RelD X.K S d v → setB d env = some e' → (∀ σ', Er X.K c S H σ' e' → wipe σ' (ownB.map (·.2)) = wipe σ (ownB.map (·.2)) → Q σ' H) → gB v σ H Q)
    (hg : ∀ (c : Ct) (S H : Hp) (σ : L2.St) (env e' : En) (d : D) (v : V) (Q : L2.St → Hp → Prop), Er X.K c S H σ env → RelD X.K S d v → set d env = some e' → (∀ σ', Er X.K c S H σ' e' → wipe σ' vs = wipe σ vs → Q σ' H) → g v σ H Q)
    (n1 : iR ∉ vs) (n2 : iR ≠ iRow) (n3 : iR ≠ iAt) (n4 : iR ≠ iT)
    (A : PS X stA (tAsg (tLc (iList X.K (eE X.K fl)) (gName iK) (eT X.K mYes) (tOp rRep tZero (eE X.K fw)) [iK]) (gName iR)))
    (B : PS X stB (tAsg (tLc (iList X.K (eE X.K fo)) gB (eT X.K mYes) (eE X.K elB) (ownB.map (·.2))) (gName iT)))
    (C : PS X stC (tFor (iList X.K (eE X.K fit)) g (tBody X.K f1 f2 ft iR iRow iAt iAm))) (D : PS X stD (tRet (tVar iR))) :
    FSs X c [stA, stB, stC, stD] (sGains fl fw (mCompL fo setB mYes elB (ownB.map (·.2))) fit set f1 f2 ft iK iR iT iRow iAt iAm) :=
  (pss_cons A (pss_cons B (pss_cons C (pss_one D)))).weak fun D' σ H h => t_gains hgB hg n1 n2 n3 n4 D' σ H h
/-- the loop, by its parts -/
theorem ps_gloop {X : Cx} {fit : M D} {g : TG} {f1 f2 : M D} {ft : M Bool} {iR iRow iAt iAm : Nat} {xR xRow xAt xAm : Str} {it tg a1 a2 tst : Expr} {p0 p1 p2 p3 p4 p5 p6 pa pb pc pd pe pf : Pos} (hpo : PassesOwn (model X.prog X.w) X.A X.env X.xe) (hc : X.calm = true) (hN : X.N.Nodup) (hit : ∀ c, FE X c it fit) (hg : PG X tg g)
    (h1 : ∀ c, FE X c a1 f1) (h2 : ∀ c, FE X c a2 f2) (ht : ∀ c, FT X c tst ft) (g1 : PG X (.Name xRow pa) (gName iRow)) (g2 : PG X (.Name xAt pb) (gName iAt)) (v1 : PE X (.Name xR pc) (tVar iR)) (v2 : PE X (.Name xRow pd) (tVar iRow)) (v3 : PE X (.Name xAt pe) (tVar iAt)) (v4 : PE X (.Name xAm pf) (tVar iAm))
    (hs : ∀ x, foldedSetIterable it X.env x = pure x := by intro _; rfl) (s1 : swapsWithSole [.Name xRow pa] a1 p1.line X.env = pure false := by rfl) (w1 : swappedStores [.Name xRow pa] a1 X.env = pure none := by rfl) (e1 : (assignEach [.Name xRow pa] X.env).map (·.2) = [assign (.Name xRow pa) X.env] := by rfl)
    (s2 : swapsWithSole [.Name xAt pb] a2 p2.line X.env = pure false := by rfl) (w2 : swappedStores [.Name xAt pb] a2 X.env = pure none := by rfl) (e2 : (assignEach [.Name xAt pb] X.env).map (·.2) = [assign (.Name xAt pb) X.env] := by rfl)
    (hp : PlainIx (.Name xRow pd)) (ha : ∀ ov iv new, augStore (.Name xAt pe) ov iv new = (do holding [new, ov, iv] (setItem ov iv new); release [new, ov, iv] []; pure .next) := by intros; rfl) :
    PS X (.For tg it [.Assign [.Name xRow pa] a1 p1, .Assign [.Name xAt pb] a2 p2, .If tst [.AugAssign (.Subscript (.Subscript (.Name xR pc) (.Name xRow pd) p3) (.Name xAt pe) p4) .Add (.Name xAm pf) p5] [] p6] [] p0) (tFor (iList X.K (eE X.K fit)) g (tBody X.K f1 f2 ft iR iRow iAt iAm)) :=
  ps_for hpo hc (pi_list (eE_ok hit)) hg
    (pss_cons (ps_asg (eE_ok h1) g1 s1 w1 e1) (pss_cons (ps_asg (eE_ok h2) g2 s2 w2 e2) (pss_one (ps_if (eT_pt ht) (pss_one (ps_augS (pe_ix ix_list v1 v2 hp) v3 get_list v4 ip_add set_list ha)) pss_nil)))) hs
/-- rows = [[0] * e for x in xs], by its parts -/
theorem ps_rows {X : Cx} {fl fw : M D} {iK iR : Nat} {xK y : Str} {l we : Expr} {scope : Scope} {p1 p2 p3 pk py pos spos : Pos} {jz : Nat} (hc : X.calm = true) (hN : X.N.Nodup) (hy : X.N[iR]? = some y) (hyl : X.env.scope.names.lookup y = some .local)
    (hsw : swapsWith (.ListComp (.BinOp (.List [.Constant (.int 0) jz p1] p2) .Mult we p3) [⟨.Name xK pk, l, [], 0⟩] scope pos) (some (.Name y py)) spos.line X.env = pure true) (ok : BlkOk X.N X.env.scope scope [(xK, iK)]) (hl : ∀ c, FE X c l fl)
    (hg : ∀ (s : Shared) (H : Hp) (C : Addr) (cl : List (Str × Addr)) (fp : List Addr), PG (X.blk s H scope (compEnvC scope cl C X.env) fp) (.Name xK pk) (gName iK))
    (hw : ∀ (s : Shared) (H : Hp) (C : Addr) (cl : List (Str × Addr)) (fp : List Addr), ∀ c, FE (X.blk s H scope (compEnvC scope cl C X.env) fp) c we fw) (hs : ∀ x, foldedSetIterable l X.env x = pure x := by intro _; rfl) :
    PS X (.Assign [.Name y py] (.ListComp (.BinOp (.List [.Constant (.int 0) jz p1] p2) .Mult we p3) [⟨.Name xK pk, l, [], 0⟩] scope pos) spos) (tAsg (tLc (iList X.K (eE X.K fl)) (gName iK) (eT X.K mYes) (tOp rRep tZero (eE X.K fw)) [iK]) (gName iR)) :=
  ps_setLc (own := [(xK, iK)]) hc hN hy hyl hsw (pi_list (eE_ok hl)) ok hg (fun _ _ _ _ _ => eT_nil) (fun s H C cl fp => pe_op op_rep (pe_lst (pa_cons pe_int pa_nil)) (eE_ok (hw s H C cl fp))) hs
/-- y = [e for x in xs], by its parts -/
theorem ps_taken {X : Cx} {fo elB : M D} {iT : Nat} {y : Str} {l elt tg : Expr} {gB : TG} {scope : Scope} {own : List (Str × Nat)} {py pos spos : Pos} (hc : X.calm = true) (hN : X.N.Nodup) (hy : X.N[iT]? = some y) (hyl : X.env.scope.names.lookup y = some .local)
    (hsw : swapsWith (.ListComp elt [⟨tg, l, [], 0⟩] scope pos) (some (.Name y py)) spos.line X.env = pure true) (ok : BlkOk X.N X.env.scope scope own) (hl : ∀ c, FE X c l fo)
    (hg : ∀ (s : Shared) (H : Hp) (C : Addr) (cl : List (Str × Addr)) (fp : List Addr), PG (X.blk s H scope (compEnvC scope cl C X.env) fp) tg gB)
    (he : ∀ (s : Shared) (H : Hp) (C : Addr) (cl : List (Str × Addr)) (fp : List Addr), ∀ c, FE (X.blk s H scope (compEnvC scope cl C X.env) fp) c elt elB) (hs : ∀ x, foldedSetIterable l X.env x = pure x := by intro _; rfl) :
    PS X (.Assign [.Name y py] (.ListComp elt [⟨tg, l, [], 0⟩] scope pos) spos) (tAsg (tLc (iList X.K (eE X.K fo)) gB (eT X.K mYes) (eE X.K elB) (own.map (·.2))) (gName iT)) :=
  ps_setLc hc hN hy hyl hsw (pi_list (eE_ok hl)) ok hg (fun _ _ _ _ _ => eT_nil) (fun s H C cl fp => eE_ok (he s H C cl fp)) hs
/-- a tuple of names as a target -/
theorem hg_tup (K : PySem.W.Frag) (is : List Nat) (n : Nat) (hn : is.length = n) : ∀ (c : Ct) (S H : Hp) (σ : L2.St) (env e' : En) (d : D) (v : V) (Q : L2.St → Hp → Prop), Er K c S H σ env → RelD K S d v → gUn (is.map gSet) d env = some e' → (∀ σ', Er K c S H σ' e' → wipe σ' is = wipe σ is → Q σ' H) → gTup K n (gNames is) v σ H Q := by
  intro c S H σ env e' d v Q E r q kk
  unfold gUn at q
  split at q
  · rename_i ds
    cases r with
    | tup ht rs =>
      refine ⟨_, _, rfl, sqT_same E.sub ht.sq, ?_, gNames_ok is ds _ σ env e' (fun i h => h) E rs q kk⟩
      rw [← rs.length, ← hn, gSets_len q, List.length_map]
  · cases q
/-- accumulate is what itertools has -/
def accB (K : PySem.W.Frag) : Bool := He.eqO (PySem.W.nsIn K mainGlobals "accumulate") (some (some (.type Acc.aT)))
theorem accB_ok {K : PySem.W.Frag} {h : Heap} {mg : Str → Option Value} (X : K.In h) (G : h.Ns mainGlobals mg) (c : accB K = true) : mg "accumulate" = some (.type Acc.aT) := PySem.W.mg_of X G (He.eqO_ok c)
end FL

set_option Elab.async false
set_option linter.all false
namespace FL
open PySem PySem.Spec PyProof.Rows L2
/-! ## a, b, c = x, y, z -/
section
variable {X : Cx} {c : Ct} {a b d : Expr} {pos px py pz pt pt2 : Pos} {kt k2}
theorem fs_par3 {i j l : Nat} {x y z : Str} {f : M (List D)} (hc : X.calm = true) (hN : X.N.Nodup) (hi : X.N[i]? = some x) (hj : X.N[j]? = some y) (hl : X.N[l]? = some z) (hij : i ≠ j) (hil : i ≠ l) (hjl : j ≠ l) (hx : X.env.scope.names.lookup x = some .local) (hy : X.env.scope.names.lookup y = some .local) (hz : X.env.scope.names.lookup z = some .local) (ha : FA X c [a, b, d] f)
    (hw : swappedStores [.Tuple [.Name x px, .Name y py, .Name z pz] kt pt] (.Tuple [a, b, d] k2 pt2) X.env = pure (some [x, y, z])) (hs : swapsWithSole [.Tuple [.Name x px, .Name y py, .Name z pz] kt pt] (.Tuple [a, b, d] k2 pt2) pos.line X.env = pure false := by rfl) :
    FSt X c (.Assign [.Tuple [.Name x px, .Name y py, .Name z pz] kt pt] (.Tuple [a, b, d] k2 pt2) pos) (sPar [i, j, l] f) := (ps_par3 hc hN hi hj hl hij hil hjl hx hy hz ha hw hs).weak fun D' σ H ⟨S, env, o, E, e1, k⟩ => by
  unfold sPar at e1
  split at e1
  · rename_i ds e2 q
    split at e1
    · rename_i e3 q2
      cases e1
      refine ⟨S, env, ds, e2, E, q, fun S1 H1 vs E1 s1 r1 => ?_⟩
      obtain ⟨d1, d2, d3, rfl⟩ : ∃ d1 d2 d3, ds = [d1, d2, d3] := by
        have hl : ds.length = 3 := gSets_len q2
        match ds, hl with
        | [d1, d2, d3], _ => exact ⟨d1, d2, d3, rfl⟩
      cases r1 with
      | cons r1 r => cases r with
        | cons r2 r => cases r with
          | cons r3 r =>
            cases r
            have q2' : (match gSet i d1 e2 with
              | some e1 => gSets [gSet j, gSet l] [d2, d3] e1
              | none => none) = some e3 := q2
            split at q2'
            · rename_i ea qa
              have q3 : (match gSet j d2 ea with
                | some e1 => gSets [gSet l] [d3] e1
                | none => none) = some e3 := q2'
              split at q3
              · rename_i eb qb
                have q4 : (match gSet l d3 eb with
                  | some e1 => gSets [] [] e1
                  | none => none) = some e3 := q3
                split at q4
                · rename_i ec qc
                  have q5 : some ec = some e3 := q4
                  cases q5
                  exact ⟨_, _, _, rfl, k S1 H1 _ (gSet_ok (gSet_ok (gSet_ok E1 qa r1) qb r2) qc r3) s1⟩
                · cases q4
              · cases q3
            · cases q2'
    · cases e1
  · cases e1
end
end FL

set_option Elab.async false
set_option linter.all false
namespace FL
open PySem PySem.Spec PyProof.Rows L2
/-! ## for a, b in zip(x, y) -/
def zipD : List D → List D → List D
  | x :: xs, y :: ys => .tup [x, y] :: zipD xs ys
  | _, _ => []
theorem zipD_drop : ∀ (xs ys : List D) (i : Nat) (x y : D), xs[i]? = some x → ys[i]? = some y → (zipD xs ys).drop i = .tup [x, y] :: (zipD xs ys).drop (i + 1)
  | a :: xs, b :: ys, 0, x, y, h1, h2 => by
    simp only [List.getElem?_cons_zero, Option.some.injEq] at h1 h2
    subst h1; subst h2
    rfl
  | a :: xs, b :: ys, i + 1, x, y, h1, h2 => zipD_drop xs ys i x y (by simpa using h1) (by simpa using h2)
theorem zipD_len : ∀ (xs ys : List D), xs.length = ys.length → (zipD xs ys).length = xs.length
  | [], [], _ => rfl
  | x :: xs, y :: ys, h => by
    simp only [zipD, List.length_cons]
    rw [zipD_len xs ys (by simpa using h)]
def sForZ (f : M (List D)) (set : FG) (body : FS) : FS := fun e => match f e with
  | some ([.lst ds, .lst es], e1) => if ds.length = es.length then loopF set body (zipD ds es) e1 else none
  | _ => none
section
variable {X : Cx} {c : Ct} {a b : Expr} {elts : List Expr} {kk : Nat} {body : List Stmt} {pos p pz tpos : Pos} {set : FG} {fb : FS}
theorem fs_forZ {f : M (List D)} (hp : PassesOwn (model X.prog X.w) X.A X.env X.xe) (hc : X.calm = true) (gz : Gl X "zip") (hm : X.mg "zip" = none) (ha : FA X c [a, b] f) (hg : FGt X c (.Tuple elts kk tpos) set) (hb : FSs X c body fb)
    (st : starEach [a, b] X.env = (false, eval a X.env) :: starEach [b] X.env := by rfl) (st2 : ((backTo pz (starEach [b] X.env)).any (·.1)) = false := by rfl)
    (hs : ∀ x, foldedSetIterable (.Call (.Name "zip" p) [a, b] [] pz) X.env x = pure x := by intro _; rfl) : FSt X c (.For (.Tuple elts kk tpos) (.Call (.Name "zip" p) [a, b] [] pz) body [] pos) (sForZ f set fb) :=
  (ps_for hp hc (pi_zip gz hm ha st st2) hg hb hs).weak fun D' σ H ⟨S, env, o, E, e1, k⟩ => by
    unfold sForZ at e1
    split at e1
    · rename_i ds es e2 q
      split at e1
      · rename_i hl
        refine ⟨S, env, _, e2, E, q, fun S1 H1 vs E1 s1 r1 => ?_⟩
        cases r1 with
        | cons ra r => cases r with
          | cons rb r => cases r with
            | nil => cases ra with
              | @lst aa _ xs ha' rs => cases rb with
                | @lst bb _ ys hb' rt =>
                  have hlen : xs.length = ys.length := by rw [← rs.length, ← rt.length]; exact hl
                  refine ⟨aa, bb, xs, ys, rfl, E1.sub.seq (.of ha'), E1.sub.seq (.of hb'), RZ.for_zipL (xs := xs) (ys := ys) hlen (fun i σ H => ∃ S2 e, Er X.K c S2 H σ e ∧ Same S1 S2 ∧ loopF set fb ((zipD ds es).drop i) e = some o) ⟨S1, e2, E1, Same.refl _, by rw [List.drop_zero]; exact e1⟩ ?_ ?_ ?_⟩
                  · rintro i σ' H' ⟨S2, e, E2, s2, _⟩
                    exact ⟨(s2.trans E2.sub).seq (.of ha'), (s2.trans E2.sub).seq (.of hb')⟩
                  · rintro i x y T σ' H' hx hy ⟨S2, e, E2, s2, q2⟩ hT
                    have hi : i < ds.length := by rw [rs.length]; exact (List.getElem?_eq_some_iff.mp hx).1
                    have hi2 : i < es.length := by omega
                    rw [zipD_drop ds es i _ _ (List.getElem?_eq_getElem hi) (List.getElem?_eq_getElem hi2)] at q2
                    obtain ⟨x', hx', rx⟩ := rs.get (List.getElem?_eq_getElem hi)
                    obtain ⟨y', hy', ry⟩ := rt.get (List.getElem?_eq_getElem hi2)
                    rw [hx] at hx'; cases hx'
                    rw [hy] at hy'; cases hy'
                    have hTS : S2 T = none := by
                      cases hz : S2 T with
                      | none => rfl
                      | some u => exact absurd (E2.sub T u hz) (by rw [hT]; simp)
                    have sT : Same S2 (upd S2 T (.tup [x, y])) := same_upd hTS
                    have rT : RelD X.K (upd S2 T (.tup [x, y])) (.tup [ds[i], es[i]]) (.ref T) := .tup (.inl upd_same) (.cons ((rx.mono s2).mono sT) (.cons ((ry.mono s2).mono sT) .nil))
                    exact loop_turn (S := S1) (E2.laid (.tup [x, y]) hT) (s2.trans sT) rT q2 (fun S3 H3 σ3 e3 E3 s3 q3 => ⟨S3, e3, E3, s3, q3⟩) (k.mono s1)
                  · rintro σ' H' ⟨S2, e, E2, s2, q2⟩
                    rw [List.drop_eq_nil_of_le (by rw [zipD_len ds es hl, rs.length]; exact Nat.le_refl _)] at q2
                    cases q2
                    exact k S2 H' σ' E2 (s1.trans s2)
      · cases e1
    · cases e1
end
/-! ## xs[::-1] of a list -/
def gRev : D → Option D
  | .lst xs => some (.lst xs.reverse)
  | _ => none
section
variable {X : Cx} {c : Ct} {e : Expr} {k : Nat} {p1 p2 p3 pos : Pos} {f : M D}
theorem RelDs.reverse {K : PySem.W.Frag} {S : Hp} : ∀ {ds : List D} {vs : List V}, RelDs K S ds vs → RelDs K S ds.reverse vs.reverse
  | _, _, .nil => .nil
  | _, _, .cons h r => by
    rw [List.reverse_cons, List.reverse_cons]
    exact (RelDs.reverse r).append (.cons h .nil)
theorem f_rev (h : FE X c e f) : FE X c (.Subscript e (.Slice none none (some (.UnaryOp .USub (.Constant (.int 1) k p1) p2)) p3) pos) (m1 gRev f) :=
  (pe_revL h).weak fun σ H Q ⟨S, env, d, env', E, e1, kk⟩ => by
    unfold m1 at e1
    split at e1
    · cases e1
    · rename_i d' ea qa
      split at e1
      · cases e1
      · rename_i z qz
        cases e1
        refine ⟨S, env, d', _, E, qa, fun S1 H1 v E1 s1 r1 => ?_⟩
        unfold gRev at qz
        split at qz
        · cases qz
          cases r1 with
          | @lst a xs vs ha rs =>
            refine ⟨a, vs, rfl, E1.sub.seq (.of ha), fun p hp => ?_⟩
            have hS : S1 p = none := by
              cases hz : S1 p with
              | none => rfl
              | some u => exact absurd (E1.sub p u hz) (by rw [hp]; simp)
            exact kk _ _ _ (E1.laid (.lst vs.reverse) hp) (s1.trans (same_upd hS)) (.lst upd_same (rs.reverse.mono (same_upd hS)))
        · cases qz
end
end FL

set_option Elab.async false
set_option linter.all false
namespace FL
open PySem PySem.Spec PyProof.Rows L2
/-! ## dict(ps): a new dict of a list of pairs -/
def pairK : D → Option (Key × D)
  | .tup [.int k, v] => some (.inl k, v)
  | .tup [.str x, v] => some (.inr x, v)
  | _ => none
def pairsK : List D → Option (List (Key × D))
  | [] => some []
  | d :: r => match pairK d with
    | some kv => (match pairsK r with
      | some kvs => some (kv :: kvs)
      | none => none)
    | none => none
def mergeKD (kvs more : List (Key × D)) : List (Key × D) := more.foldl (fun acc kv => putKD acc kv.1 kv.2) kvs
def gDictP : List D → Option D
  | [.lst ds] => (match pairsK ds with
    | some kvs => some (.dic (mergeKD [] kvs))
    | none => none)
  | _ => none
theorem RelKs.merge {K : PySem.W.Frag} {S : Hp} : ∀ {more : List (Key × D)} {vs : List (Key × V)}, RelKs K S more vs → ∀ {kvs : List (Key × D)} {us : List (Key × V)}, RelKs K S kvs us → RelKs K S (mergeKD kvs more) (mergeK us vs)
  | _, _, .nil, _, _, r => r
  | _, _, .cons (k := k) h rs, kvs, us, r => RelKs.merge rs (r.put h)
theorem pairsK_rel {K : PySem.W.Frag} {S H : Hp} (sub : Same S H) : ∀ {ds : List D} {vs : List V} {kvs : List (Key × D)}, RelDs K S ds vs → pairsK ds = some kvs → ∃ (ps : List Addr) (us : List (Key × V)), vs = ps.map V.ref ∧ Paired (fun p kv => SqT K H p [kV kv.1, kv.2]) ps us ∧ RelKs K S kvs us
  | _, _, _, .nil, h => by
    cases h
    exact ⟨[], [], rfl, .nil, .nil⟩
  | d :: ds, _, _, .cons r rs, h => by
    unfold pairsK at h
    split at h
    · rename_i kv q
      split at h
      · rename_i kvs' q'
        cases h
        obtain ⟨ps, us, e, pd, rk⟩ := pairsK_rel sub rs q'
        unfold pairK at q
        split at q
        · cases q
          cases r with
          | tup t rt => cases rt with
            | cons r1 rt => cases rt with
              | cons r2 rt => cases rt with
                | nil =>
                  cases r1
                  exact ⟨_ :: ps, (.inl _, _) :: us, by rw [e]; rfl, .cons (t.same sub).sq pd, .cons r2 rk⟩
        · cases q
          cases r with
          | tup t rt => cases rt with
            | cons r1 rt => cases rt with
              | cons r2 rt => cases rt with
                | nil =>
                  cases r1
                  exact ⟨_ :: ps, (.inr _, _) :: us, by rw [e]; rfl, .cons (t.same sub).sq pd, .cons r2 rk⟩
        · cases q
      · cases h
    · cases h
theorem fo_dictP {X : Cx} {c : Ct} {a : Expr} {p pos : Pos} {f : M (List D)} (hc : X.calm = true) (ha : FA X c [a] f) (hg : Gl X "dict") (hm : X.mg "dict" = none) (he : starEach [a] X.env = (false, eval a X.env) :: starEach [] X.env := by rfl) (hpl : (backTo pos (starEach ([] : List Expr) X.env)).any (·.1) = false := by rfl) :
    FO X c (.Call (.Name "dict" p) [a] [] pos) (mMk gDictP f) := (pe_callTy (call_dictP hc) hg hm (by decide +kernel) ha (by decide) (by decide) he hpl).weak fun σ H Q ⟨S, env, d, env', E, e1, kk⟩ => by
  unfold mMk at e1
  split at e1
  · cases e1
  · rename_i da ea qa
    split at e1
    · cases e1
    · rename_i z qz
      cases e1
      refine ⟨S, env, da, _, E, qa, fun S1 H1 vs E1 s1 r1 => ?_⟩
      unfold gDictP at qz
      split at qz
      · split at qz
        · rename_i kvs qk
          cases qz
          cases r1 with
          | cons r1 rs =>
            cases rs
            cases r1 with
            | lst h r =>
              obtain ⟨ps, us, rfl, pd, rk⟩ := pairsK_rel E1.sub r qk
              refine ⟨_, ps, us, rfl, E1.sub.seq (.of h), pd, fun q hq => ?_⟩
              refine kk S1 _ q (E1.lay _ hq) s1 ⟨_, upd_same, RelKs.merge rk .nil⟩ (E1.sub.free hq) ?_ fun j f e q2 z => ?_
              · cases ez : c.H0 q with
                | none => rfl
                | some o => exact absurd hq (E1.dom q (by rw [ez]; exact fun z => nomatch z))
              · obtain ⟨p1, a1, o1, _⟩ := E1.ow j f e q2
                rw [a1] at z; cases z
                exact o1.there hq
        · cases qz
      · cases qz
end FL

set_option Elab.async false
set_option linter.all false
namespace FL
open PySem PySem.Spec PyProof.Rows L2
/-! ## < of ints or of tuples of ints -/
def gLt2 : D → D → Option D
  | .int i, .int j => some (.bl (decide (i < j)))
  | .tup ds, .tup es => (match intsD ds, intsD es with
    | some ns, some ms => some (.bl (HT.lexLt ns ms))
    | _, _ => none)
  | _, _ => none
theorem rels_int {K : PySem.W.Frag} {S : Hp} : ∀ {ns : List Int} {vs : List V}, RelDs K S (ns.map D.int) vs → vs = ns.map V.int
  | [], _, .nil => rfl
  | n :: ns, _, .cons h r => by
    cases h
    rw [rels_int r]
    rfl
theorem o2_lt2 {K : PySem.W.Frag} : Op2 K (fun x y H Q => rI0 (fun i j => .bl (decide (i < j))) x y H Q ∨ rLtT K x y H Q) gLt2 := by
  intro S H d e z x y Q q hd he hs kv ka
  unfold gLt2 at q
  split at q
  · cases q
    exact .inl ⟨_, _, vw_int hd, vw_int he, kv _ (.bl _)⟩
  · split at q
    · rename_i ns ms q1 q2
      cases q
      rcases hd with hd | ⟨p, _, hd⟩
      · rcases he with he | ⟨p', _, he⟩
        · cases hd with
          | tup t r => cases he with
            | tup t' r' =>
              rw [ints_map q1] at r
              rw [ints_map q2] at r'
              have e1 := rels_int r
              have e2 := rels_int r'
              subst e1
              subst e2
              exact .inr ⟨_, _, ns, ms, rfl, rfl, (t.same hs).sq, (t'.same hs).sq, kv _ (.bl _)⟩
        · exact he.elim
      · exact hd.elim
    · cases q
  · cases q
section
variable {X : Cx} {c : Ct} {a b : Expr} {pos : Pos} {fa fb : M Hd}
theorem f_lt2 {k : Nat} (room : Room k X.A) (ha : FH X c a fa) (hb : FH X c b fb) : FE X c (.Compare a [.Lt] [b] pos) (m2H gLt2 fa fb) := f_cmp (op2_or op_lt (op_ltT (Nat.lt_of_le_of_lt (Nat.le_add_right _ _) room.units))) o2_lt2 ha hb (nobehind _ (by decide) (by decide))
theorem ft_lt2 {k : Nat} (room : Room k X.A) (ha : FH X c a fa) (hb : FH X c b fb) : FT X c (.Compare a [.Lt] [b] pos) (mTb (m2H gLt2 fa fb)) := ft_cmp (op2_or op_lt (op_ltT (Nat.lt_of_le_of_lt (Nat.le_add_right _ _) room.units))) o2_lt2 ha hb (nobehind _ (by decide) (by decide))
end
end FL

set_option Elab.async false
set_option linter.all false
set_option maxRecDepth 100000
set_option maxHeartbeats 4000000
namespace FL
open PySem PySem.Spec PyProof.Rows L2
/-! ## own exception classes that keep one value -/
def newB (l : List (Option Value)) : Bool := match l with
  | [_, _, _, _, some (.builtin z), _] => decide (z = "ValueError.__new__")
  | _ => false
def overB (c : Addr) : List Value → Bool
  | .ref a :: r => decide (a = c) && PySem.HandSPX.refsVE r
  | _ => false
def exoB (c : Addr) : Option Obj → Bool
  | none => false
  | some o => match o.data with
    | .cls z => (match o.cls with
      | .type t => decide (t = "type")
      | _ => false) && (z.hasDict && (!z.hasDel && (overB c z.mro && newB o.slots.toList)))
    | _ => false
theorem exoB_ok {c : Addr} {q : Option Obj} (h : exoB c q = true) : ∃ nm qn N bs bm sn sub ab col dd k0 k1 k2 k3 k5, q = some (excClassObj nm qn c N bs bm true sn sub ab col dd k0 k1 k2 k3 k5 "ValueError.__new__") ∧ PySem.HandSPX.refsVE bm = true := by
  cases q with
  | none => cases h
  | some o =>
    obtain ⟨cl, dd, dat, sl⟩ := o
    unfold exoB at h
    cases dat with
    | cls z =>
      obtain ⟨nm, bs, mro, ns, qn, hd, sn, sub, ab, col, del⟩ := z
      simp only [Bool.and_eq_true, Bool.not_eq_true'] at h
      obtain ⟨h1, h2, h3, h4, h5⟩ := h
      subst h2
      subst h3
      cases cl with
      | type t =>
        have ht : t = "type" := of_decide_eq_true h1
        subst ht
        cases mro with
        | nil => cases h4
        | cons m bm =>
          cases m with
          | ref a =>
            unfold overB at h4
            simp only [Bool.and_eq_true, decide_eq_true_eq] at h4
            obtain ⟨ha, hb⟩ := h4
            subst ha
            obtain ⟨l⟩ := sl
            unfold newB at h5
            split at h5
            · rename_i k0 k1 k2 k3 z k5 hs
              have hz : z = "ValueError.__new__" := of_decide_eq_true h5
              subst hz
              have hs' : l = [k0, k1, k2, k3, some (.builtin "ValueError.__new__"), k5] := hs
              subst hs'
              exact ⟨nm, qn, ns, bs, bm, sn, sub, ab, col, dd, k0, k1, k2, k3, k5, rfl, hb⟩
            · cases h5
          | _ => cases h4
      | _ => cases h1
    | _ => cases h
/-- the facts of such a class: cn its name, fl the name that its value stands under -/
structure ExF (K : PySem.W.Frag) (cn fl : Str) : Prop where
  ox : OexC K (He.ga K cn)
  xf : XfC K (He.ga K cn)
  ini : PySem.W.findIn K (.ref (He.ga K cn)) "__init__" = some (some (.ref (He.ma K (He.ga K cn) "__init__")))
  fun_ : PySem.W.typeIn K (.ref (He.ma K (He.ga K cn) "__init__")) = some (.type "function")
  non : PySem.W.findIn K (.ref (He.ga K cn)) fl = some none
  self_ : PySem.W.exmOne K (.ref (He.ga K cn)) (.ref (He.ga K cn)) = some true
def exfB (K : PySem.W.Frag) (cn fl : Str) : Bool :=
  exoB (He.ga K cn) (K.lookup (He.ga K cn)) && (xfB K (He.ga K cn) && (PySem.W.keepIn K (.ref (He.ga K cn)) &&
  (decide (PySem.W.findIn K (.ref (He.ga K cn)) "__setattr__" = some (some (.builtin "object.__setattr__"))) &&
  (decide (PySem.W.typeIn K (.ref (He.ga K cn)) = some (.type "type")) &&
  (decide (PySem.W.findIn K (.ref (He.ga K cn)) "__init__" = some (some (.ref (He.ma K (He.ga K cn) "__init__")))) &&
  (decide (PySem.W.typeIn K (.ref (He.ma K (He.ga K cn) "__init__")) = some (.type "function")) &&
  (decide (PySem.W.findIn K (.ref (He.ga K cn)) fl = some none) && decide (PySem.W.exmOne K (.ref (He.ga K cn)) (.ref (He.ga K cn)) = some true))))))))
theorem exfB_ok {K : PySem.W.Frag} {cn fl : Str} (h : exfB K cn fl = true) : ExF K cn fl := by
  unfold exfB at h
  simp only [Bool.and_eq_true, decide_eq_true_eq] at h
  obtain ⟨h1, h2, h3, h4, h5, h6, h7, h8, h9⟩ := h
  have x := xfB_ok h2
  exact ⟨⟨exoB_ok h1, h4, x.exC, h5, h3⟩, x, h6, h7, h8, h9⟩
/-! ## self.f = v -/
def spI (K : PySem.W.Frag) (cn fl : Str) : Sp := fun vs H Q E => ∃ a v, vs = [.ref a, v] ∧ H a = some (exo a (He.ga K cn) none) ∧ ∀ dx, H dx = none → dx ≠ a → Q .non (upd (upd H dx (exd dx [(fl, v)])) a (exo a (He.ga K cn) (some dx)))
/-! ## raise C(e) -/
section
variable {X : Cx} {W : WX} {k i : Nat} {fd : FuncData} {ps : List Str} {cn fl x : Str} {p pos pos' : Pos} {e : Expr} {es rest : List Expr}
def tRaiseN (K : PySem.W.Frag) (cn fl : Str) (W : WX) (i : Nat) : TS := fun _ σ H => ∃ v, σ[i]? = some (some v) ∧ ∀ d, H d = none → W (.ref (He.ga K cn)) (some d) σ (upd H d (.xd [(fl, v)]))
theorem ps_raiseN (hc : X.calm = true) (tk : Takes X W) (ex : ExF X.K cn fl) (F : FnOk X.prog X.w X.K X.mg X.base CX0 k (He.ma X.K (He.ga X.K cn) "__init__") fd ps (spI X.K cn fl)) (room : Room (k + 1) X.A) (hb : Binds X.K fd ps [])
    (gl : Gl X x) (hm : X.mg x = some (.ref (He.ga X.K cn))) (he : PE X e (tVar i)) (n1 : (x == ("__debug__" : Str)) = false := by decide) (n2 : starEach [e] X.env = (false, eval e X.env) :: starEach [] X.env := by rfl) (n3 : (backTo pos (starEach [] X.env)).any (·.1) = false := by rfl) :
    PS X (.Raise (some (.Call (.Name x p) [e] [] pos)) none pos') (tRaiseN X.K cn fl W i) :=
  (ps_raise hc tk (pmk_oex ex.ox ex.ini ex.fun_ F room hb .nil pass0 gl hm (pa_cons he pa_nil n2) n1 n2 n3)).weak fun D σ H ⟨v, hv, h⟩ => by
    refine ⟨v, hv, by show (1 : Nat) ≤ 1000; decide, fun a ha => ⟨a, v, rfl, upd_same, fun dx hdx hne => ⟨rfl, dx, [(fl, v)], upd_same, ?_, ?_, ?_⟩⟩⟩
    · rw [upd_ne hne, upd_same]
    · rw [upd_ne hne] at hdx
      exact hdx
    · have hdx' : H dx = none := by rw [upd_ne hne] at hdx; exact hdx
      have eH : upd (del (upd (upd (upd H a (exo a (He.ga X.K cn) none)) dx (exd dx [(fl, v)])) a (exo a (He.ga X.K cn) (some dx))) a) dx (.xd [(fl, v)]) = upd H dx (.xd [(fl, v)]) := by
        funext b
        by_cases h1 : b = dx
        · subst h1
          rw [upd_same, upd_same]
        · rw [upd_ne h1, upd_ne h1]
          by_cases h2 : b = a
          · subst h2
            rw [del_same, ha]
          · rw [del_ne h2, upd_ne h2, upd_ne h1, upd_ne h2]
      show W _ _ _ _
      rw [eH]
      exact h dx hdx'
end
/-- what lets nothing out may stand where something may be let out -/
theorem ps_lift {X : Cx} {st : Stmt} {t : TS} (q : PS X.nox st t) : PS X st t := by
  refine ⟨fun p s0 σ0 H0 D0 J r => ?_⟩
  have z := q.run p s0 σ0 H0 D0 (J.wish _) r
  exact wpAny_mono z (fun _ _ y => y.unwish) fun _ _ y => y.elim
/-! ## what a def raises about its last argument -/
def spU (K : PySem.W.Frag) (cn fl : Str) (n : Nat) (C : Hp → List V → Prop) : Sp := fun vs H Q E => vs.length = n ∧ C H vs ∧ ∀ (H' : Hp) (d : Addr) (v : V), Same H H' → H' d = none → vs.getLast? = some v → E (.ref (He.ga K cn)) (some d) (upd H' d (.xd [(fl, v)]))
theorem fss_bad {X : Cx} {c : Ct} {st : List Stmt} : FSs X c st sBad := ⟨fun pins s σ H D I ⟨S, env, o, E, q, k⟩ => by cases q⟩
/-! a def that begins: y = f(.., z), where f raises about z -/
section
variable {X : Cx} {W : WX} {k i n : Nat} {f : Addr} {fd : FuncData} {ps : List Str} {cn fl x : Str} {p pos pos' : Pos} {e : Expr} {es : List Expr} {tg : Expr} {g : TG} {rest : List Stmt} {C : Hp → List V → Prop} {t : TA} {E : XK}
def tBad : TS := fun _ _ _ => False
theorem pss_bad : PSs X rest tBad := (PSs.nox (fss_bad (c := ⟨fun _ => none, fun _ => none, fun _ => none⟩))).weak fun D σ H h => h.elim
theorem pss_raising {CXT : L2.CXT} (F : FnOk X.prog X.w X.K X.mg X.base CXT k f fd ps (spU X.K cn fl n C)) (room : Room k X.A) (gl : Gl X x) (hm : X.mg x = some (.ref f)) (kp : PySem.W.keepIn X.K (.ref f) = true) (hb : Binds X.K fd ps []) (hx : Passes CXT X E)
    (ha : PA X (e :: es) t) (hg : PG X tg g) (n1 : (x == ("__debug__" : Str)) = false := by decide) (n2 : starEach (e :: es) X.env = (false, eval e X.env) :: starEach es X.env := by rfl) (n3 : (backTo pos (starEach es X.env)).any (·.1) = false := by rfl)
    (hs : swapsWithSole [tg] (.Call (.Name x p) (e :: es) [] pos) pos'.line X.env = pure false := by rfl) (hw : swappedStores [tg] (.Call (.Name x p) (e :: es) [] pos) X.env = pure none := by rfl) (h1 : (assignEach [tg] X.env).map (·.2) = [assign tg X.env] := by rfl) :
    PSs X (.Assign [tg] (.Call (.Name x p) (e :: es) [] pos) pos' :: rest) (tSeq (tAsg (tCall (spU X.K cn fl n C) [] E t) g) tBad) :=
  pss_cons (ps_asg (pe_call F room gl hm kp hb .nil hx ha n1 n2 n3) hg hs hw h1) pss_bad
end
/-- a state that is looked at afresh: all slots shared or without a value -/
theorem ER.look {K : PySem.W.Frag} {S H : Hp} {σ : L2.St} {env : En} (sub : Same S H) (len : env.length = σ.length) (sh : ∀ (i : Nat) (d : D), env[i]? = some (Sl.sh d) → ∃ v, σ[i]? = some (some v) ∧ RelD K S d v) (no : ∀ (i : Nat) (f : Bool) (d : D), env[i]? ≠ some (Sl.ow f d)) : ER K (fun _ => none) S H S H σ env :=
  ⟨sub, len, sh, fun i f d q => absurd q (no i f d), fun i j f g d e p _ q _ _ => absurd q (no i f d), Same.refl _, fun _ z => z, fun _ _ z _ => z, fun _ z => .inl z, fun _ _ z => (by cases z), fun _ _ z => (by cases z)⟩
/-- a statement whose state is not known beforehand -/
def tEx (K : PySem.W.Frag) (f : FS) : TS := fun D σ H => ∃ c, tS K c f D σ H
theorem ps_ex {X : Cx} {st : Stmt} {f : FS} (q : ∀ c, FSt X c st f) : PS X st (tEx X.K f) := ⟨fun p s σ H D J ⟨c, z⟩ => (q c).run p s σ H D J z⟩
end FL

set_option Elab.async false
set_option linter.all false
set_option maxRecDepth 100000
set_option maxHeartbeats 4000000
namespace FL
open PySem PySem.Spec PyProof.Rows L2
/-! ## f(own, e, ..), whose result is a new object -/
section
variable {X : Cx} {c : Ct} {k : Nat} {f : Addr} {fd : FuncData} {ps : List Str} {φ : Fn} {x : Str} {p pos : Pos} {e : Expr} {es : List Expr} {fa : M (List D)} {j : Nat}
theorem fo_callO {x0 : Str} {p0 : Pos} (G : FnG X.prog X.w X.K X.mg X.base CX0 k f fd ps (spO X.K φ)) (gu : Gd X.A X.base) (room : Room k X.A) (gl : Gl X x) (hm : X.mg x = some (.ref f)) (kp : PySem.W.keepIn X.K (.ref f) = true) (hb : Binds X.K fd ps []) (hv : PE X (.Name x0 p0) (tVar j)) (ha : FA X c es fa)
    (n1 : (x == ("__debug__" : Str)) = false := by decide) (n2 : starEach (.Name x0 p0 :: es) X.env = (false, eval (.Name x0 p0) X.env) :: starEach es X.env := by rfl) (n3 : (backTo pos (starEach es X.env)).any (·.1) = false := by rfl) : FO X c (.Call (.Name x p) (.Name x0 p0 :: es) [] pos) (mCallO φ j fa) :=
  (callG G gu room gl hm kp hb .nil pass0 (pa_cons hv ha n2) n1 n2 n3).weak fun σ H Q ⟨S, env, d, env', E, e1, kk⟩ => by
    unfold mCallO at e1
    split at e1
    · rename_i f0 d0 q0
      split at e1
      · rename_i ds e2 q
        split at e1
        · rename_i f1 d1 q1
          split at e1
          · rename_i r d' rest q2
            cases e1
            obtain ⟨p0, a0, _⟩ := E.ow j f0 d0 q0
            refine ⟨_, a0, S, env, ds, _, E, q, fun S1 H1 vs E1 s1 r1 => ?_⟩
            obtain ⟨p1, a1, o1, z1, w1⟩ := E1.ow j f1 d1 q1
            rw [a0] at a1; cases a1
            show spO X.K φ (V.ref p0 :: vs ++ []) H1 Q E0
            rw [List.append_nil]
            refine ⟨_, S1, _, _, _, ER.args0 E1.sub r1 o1 z1, q2, fun S2 H2 v E2 s2 o3 z3 n3 => ?_⟩
            obtain ⟨p2, a2, o2, _, _⟩ := E2.ow 0 false d' rfl
            cases a2
            have E3 := E1.growL q1 a0 E2.s0 E2.sub E2.dom (fun b o z hb => E2.kep b o z fun i hi => by
              unfold lent0 at hi
              split at hi
              · cases hi; exact hb rfl
              · cases hi) E2.frs o2
            refine kk S2 H2 v E3 (s1.trans s2) o3 z3 ?_ fun j' f' e' q' z' => ?_
            · cases ez : c.H0 v with
              | none => rfl
              | some o => exact absurd n3 (E1.dom v (by rw [ez]; exact fun z => nomatch z))
            · by_cases hj : j' = j
              · subst hj
                rw [a0] at z'
                cases z'
                exact o1.there n3
              · rw [List.getElem?_set_ne (Ne.symm hj)] at q'
                obtain ⟨p3, a3, o4, _⟩ := E1.ow j' f' e' q'
                rw [a3] at z'; cases z'
                exact o4.there n3
          · cases e1
        · cases e1
      · cases e1
    · cases e1
end
/-! ## isinstance of a caught error that has a dict -/
structure IsX (K : PySem.W.Frag) (cn : Str) : Prop where
  cl : (PySem.W.clsIn K (He.ga K cn)).isSome = true
  at_ : PySem.W.findIn K (.ref (He.ga K cn)) "__class__" = some (some (.builtin "object.__class__"))
  get : PySem.W.specialIn K (.builtin "object.__class__") "__get__" = some (some (.builtin "getset_descriptor.__get__"))
  tk : PySem.W.takesIn K (.builtin "object.__class__") = some true
  mr : PySem.W.mroIn K (He.ga K cn) (.type "object") = some true
  one : PySem.W.kitOne K (.ref (He.ga K cn)) (.ref (He.ga K cn)) = some true
def isxB (K : PySem.W.Frag) (cn : Str) : Bool :=
  (PySem.W.clsIn K (He.ga K cn)).isSome && (decide (PySem.W.findIn K (.ref (He.ga K cn)) "__class__" = some (some (.builtin "object.__class__"))) && (decide (PySem.W.specialIn K (.builtin "object.__class__") "__get__" = some (some (.builtin "getset_descriptor.__get__"))) &&
  (decide (PySem.W.takesIn K (.builtin "object.__class__") = some true) && (decide (PySem.W.mroIn K (He.ga K cn) (.type "object") = some true) && decide (PySem.W.kitOne K (.ref (He.ga K cn)) (.ref (He.ga K cn)) = some true)))))
theorem isxB_ok {K : PySem.W.Frag} {cn : Str} (h : isxB K cn = true) : IsX K cn := by
  unfold isxB at h
  simp only [Bool.and_eq_true, decide_eq_true_eq] at h
  obtain ⟨h1, h2, h3, h4, h5, h6⟩ := h
  exact ⟨h1, h2, h3, h4, h5, h6⟩
def rIsX (C a : Addr) (cls : Value) (d : Option Addr) : List V → Hp → VK → Prop := fun xs H Q => cls = .ref C ∧ xs = [.ref a, .ref C] ∧ (∃ dd fs, d = some dd ∧ H dd = some (.xd fs)) ∧ Q (.bl true) H
theorem call_isX {X : Cx} {a : Addr} {cn fl : Str} {oe : Obj} {cls : Value} {d : Option Addr} {pn : List (Addr × Obj)} (ex : ExF X.K cn fl) (ix : IsX X.K cn) (hz : Zc cls d oe) (hf : ∃ vs, oe.data = .fields vs) : CallR (X.suite a ((a, oe) :: pn)) (.builtin "isinstance") (rIsX (He.ga X.K cn) a cls d) := by
  intro ip s σ H xs us Q J r h
  obtain ⟨rfl, rfl, ⟨dd, fs, rfl, hd⟩, q⟩ := h
  cases r with
  | cons r1 rr => cases rr with
    | cons r2 rr =>
      cases rr
      cases r1
      cases r2
      obtain ⟨here, _⟩ := J.pin (a, oe) (List.mem_append.mpr (.inl List.mem_cons_self))
      obtain ⟨vs, hv⟩ := hf
      obtain ⟨mA, hns, _⟩ : ObjOk X.prog X.w H s.heap dd (.xd fs) := J.hok dd _ hd
      obtain ⟨od, ho, _⟩ := lookIn_ns hns
      have I : PySem.W.InstAt s.heap a oe (He.ga X.K cn) (some od) := ⟨here, hz.1, by unfold PySem.W.notCls; rw [hv] <;> rfl, by rw [hz.2]; exact ho⟩
      exact PySem.W.kia_one (PySem.W.kitx_exc ix.cl ex.xf.ga ex.xf.gg ex.xf.exC ix.at_ ix.get ix.tk ix.mr) J.kIn I ix.one (fun z => nomatch z) fun tk => ⟨.bl true, H, J.kept (t' := tk) fun _ _ z => z, rfl, q⟩
/-! ## C(e, ..), whose __init__ may raise: what is raised may be asked with the slots -/
def tMakeS (C : Addr) (sp : Sp) (E : L2.St → XK) (t : TA) : TE := fun σ H Q => t σ H fun vs H1 => ∀ x dx, H1 x = none → H1 dx = none → dx ≠ x → sp (V.ref x :: vs) (upd (upd H1 dx (.own x)) x (.ins C dx [])) (fun v H2 => v = .non ∧ Q (.ref x) H2) (E σ)
section
variable {X : Cx} {CX : CXT} {k : Nat} {f C : Addr} {sp : Sp} {E : L2.St → XK} {x : Str} {e : Expr} {es : List Expr} {t : TA} {p pos : Pos}
theorem pe_makeS (M : Mk X.K C f) (F : FnR X.prog X.w X.K X.mg X.base CX k f sp) (room : Room (k + 1) X.A) (gl : Gl X x) (hm : X.mg x = some (.ref C)) (pa : ∀ σ, PassesAt CX X σ (E σ)) (ha : PA X (e :: es) t) (n1 : (x == ("__debug__" : Str)) = false := by decide)
    (n2 : starEach (e :: es) X.env = (false, eval e X.env) :: starEach es X.env := by rfl) (n3 : (backTo pos (starEach es X.env)).any (·.1) = false := by rfl) : PE X (.Call (.Name x p) (e :: es) [] pos) (tMakeS C sp E t) := by
  refine ⟨fun ip s σ H Q J want => ?_⟩
  apply wpAny_Call_Name_kw
  apply ld_glob J gl hm _ n1
  apply PySem.W.callWith_K (h₀ := X.base) J.ok.mod.kin M.kp _ n2 n3
  apply thn (ha.run pos ip s σ H _ J want)
  rintro us s1 ⟨vs, H1, J1, rv, q⟩
  refine ⟨J1.kIn, ?_⟩
  have free1 : H1 s1.heap.objs.size = none := J1.hok.fresh (Nat.le_refl _)
  have free2 : H1 (s1.heap.objs.size + 1) = none := J1.hok.fresh (Nat.le_succ _)
  have ask := q _ _ free2 free1 (Nat.ne_of_lt (Nat.lt_succ_self _))
  have J2 := Inv.made (C := C) J1
  have rv2 : Vals (V.ref (s1.heap.objs.size + 1) :: vs) (Value.ref (s1.heap.objs.size + 1) :: us) := .cons rfl rv
  have go := F _ X.stack _ _ _ _ _ (E σ) (room.make C us []) (J2.env0.make C us []) rv2 ask
  apply wpAny_call
  apply make_map (f := f) J1.kIn M.makes M.init (beq_iff_eq.mp M.fn)
  refine codeAny_mono go ?_
  intro r s' z
  match r, z with
  | .error er, z => exact pa σ _ _ _ er s' J2 z
  | .ok (.ret u), z =>
    obtain ⟨v, H3, J3, rv3, ev, q3⟩ := J2.after z
    subst ev
    exact ⟨rv3, .ref _, H3, J3, rfl, q3⟩
  | .ok .next, z => exact z.elim
  | .ok .brk, z => exact z.elim
  | .ok .cont, z => exact z.elim
end
end FL

set_option Elab.async false
set_option linter.all false
set_option maxRecDepth 100000
set_option maxHeartbeats 4000000
namespace PL
open PySem PySem.Spec PyProof.Rows L2 FL
noncomputable def B__law_tape : FS := (sSeq (sAsg (gSet 2) (mAddA (mV (mC (.int 97))) (mV (mMulA (mHs 1) (mV (mC (.int 31)))))))
  (sSeq (sForL (mVar 0) (gSet 3) (sAsg (gSet 2) (mAddA (mV (mMod (mPow (mAddA (mV (mAddA (mV (mMulA (mHs 2) (mV (mC (.int 30011))))) (mV (mMulA (mHs 3) (mHs 3))))) (mV (mC (.int 7)))) (mC (.int 2))) (mC (.int 2147483563)))) (mV (mC (.int 2))))))
  (sSeq (sAsg (gSet 4) (mIf (mTAnd (mTb (mLt (mHs 1) (mV (m1H gLen (mHs 0))))) (mTb (mGe (mV (m2H gIx (mHs 0) (mHs 1))) (mV (mPow (mC (.int 10)) (mC (.int 18))))))) (mSub (m2H gIx (mHs 0) (mHs 1)) (mPow (mC (.int 10)) (mC (.int 18)))) (mC (.int 0))))
  (sRetO (mDicN [("digits", 4), ("mixed", 2)])))))
noncomputable def F__law_tape : Fn := mkFnO 5 2 B__law_tape
noncomputable def B__law_pick : FS := (sSeq (sIf (mTb (mGe (mV (m2H gDGet (mHs 0) (mV (mC (.str "digits"))))) (mHs 1))) (sSeq (sAsg (gSet 2) (mMod (m2H gDGet (mHs 0) (mV (mC (.str "digits")))) (mVar 1)))
  (sSeq (sDPutD 0 (.inr "digits") (mDiv (m2H gDGet (mHs 0) (mV (mC (.str "digits")))) (mVar 1)))
  (sRet (mVar 2)))) sNil)
  (sSeq (sDPutD 0 (.inr "mixed") (mMod (mAddA (mV (mMulA (mV (m2H gDGet (mHs 0) (mV (mC (.str "mixed"))))) (mV (mC (.int 40014))))) (mV (mC (.int 1013)))) (mC (.int 2147483563))))
  (sRet (mMod (mDiv (mMod (mPow (mMod (mPow (m2H gDGet (mHs 0) (mV (mC (.str "mixed")))) (mC (.int 2))) (mC (.int 2147483399))) (mC (.int 3))) (mC (.int 998244353))) (mC (.int 5))) (mVar 1)))))
noncomputable def F__law_pick : Fn := mkFn 3 2 B__law_pick
noncomputable def B__law_one_of : FS := (sRet (m2H gIx (mHs 1) (mV (mCallO F__law_pick 0 (mCons (m1H gLen (mHs 1)) mNil)))))
noncomputable def F__law_one_of : Fn := mkFn 2 2 B__law_one_of
noncomputable def B__law_pair : FS := (sSeq (sAsg (gSet 1) (mCallO F__law_pick 0 (mCons (mC (.int 13)) mNil)))
  (sSeq (sAsg (gSet 2) (mTup (mCons (mVar 1) (mCons (mAddA (mHs 1) (mV (mCallO F__law_pick 0 (mCons (mCallO F__law_one_of 0 (mCons (mLst (mCons (mC (.int 1)) (mCons (mC (.int 4)) (mCons (mC (.int 9)) mNil)))) mNil)) mNil)))) mNil))))
  (sRet (mCallO F__law_one_of 0 (mCons (mAddA (mV (mMulA (mV (mLst (mCons (mVar 2) mNil))) (mV (mC (.int 9))))) (mV (mLst (mCons (mTup (mCons (mC (.int 0)) (mCons (mPow (mC (.int 10)) (mC (.int 6))) mNil))) (mCons (mTup (mCons (mC (.int 0)) (mCons (mC (.int 0)) mNil))) (mCons (mTup (mCons (mPow (mC (.int 10)) (mC (.int 6))) (mCons (mPow (mC (.int 10)) (mC (.int 6))) mNil))) mNil)))))) mNil)))))
noncomputable def F__law_pair : Fn := mkFn 3 1 B__law_pair
noncomputable def B__law_pairs : FS := (sRet (mCompR (mCons (mCallO F__law_pick 0 (mCons (mAddA (mHs 1) (mV (mC (.int 1)))) mNil)) mNil) (gSet 2) mYes (mCallO F__law_pair 0 mNil) [2]))
noncomputable def F__law_pairs : Fn := mkFn 3 2 B__law_pairs
noncomputable def B_is_whole : FS := (sRet (mAnd (m1H (gIsi "int") (mHs 0)) (m1 gNot (m1H (gIsi "bool") (mHs 0)))))
noncomputable def F_is_whole : Fn := mkFn 1 1 B_is_whole
noncomputable def B_is_day : FS := (sRet (mAnd (mCall F_is_whole (mCons (mVar 0) mNil)) (mChain (gB fun i j => decide (i ≤ j)) (gB fun i j => decide (i ≤ j)) (mC (.int 0)) (mVar 0) (mC (.int 1000000)))))
noncomputable def F_is_day : Fn := mkFn 1 1 B_is_day
noncomputable def B_is_pair : FS := (sSeq (sIf (mTNot (mTAnd (mTb (m1H (gIsi "tuple") (mHs 0))) (mTb (m2H gEq (mV (m1H gLen (mHs 0))) (mV (mC (.int 2))))))) (sRet (mC (.bl false))) sNil)
  (sSeq (sAsg (gUn [(gSet 1), (gSet 2)]) (mVar 0))
  (sRet (mAnd (mCall F_is_day (mCons (mVar 1) mNil)) (mAnd (mCall F_is_day (mCons (mVar 2) mNil)) (mLe (mHs 1) (mHs 2)))))))
noncomputable def F_is_pair : Fn := mkFn 3 1 B_is_pair
noncomputable def B__corners_among : FS := (sSeq (sOwn 1 (mMk gLstD mNil))
  (sSeq (sForL (mMk gSortP (mCons (mVar 0) mNil)) (gUn [(gSet 2), (gSet 3)]) (sSeq (sWhile 100000 (mTAnd (mTru (mHs 1)) (mTb (mGe (mV (m2H gIx (mV (m2H gIx (mHs 1) (mV (m1 gNeg (mC (.int 1)))))) (mV (mC (.int 1))))) (mHs 3)))) (sDrop (mPop 1)))
  (sIf (mTOr (mTNot (mTru (mHs 1))) (mTb (mLt (mV (m2H gIx (mV (m2H gIx (mHs 1) (mV (m1 gNeg (mC (.int 1)))))) (mV (mC (.int 0))))) (mHs 2)))) (sAppend 1 (mTup (mCons (mVar 2) (mCons (mVar 3) mNil)))) sNil)))
  (sRet (mVar 1))))
noncomputable def F__corners_among : Fn := mkFn 4 1 B__corners_among
noncomputable def B_Stairs____init__ : FS := (sSeq (sForT (mVar 1) (gSet 2) (sIf (mTNot (mTb (mCall F_is_pair (mCons (mVar 2) mNil)))) sBad sNil))
  (sFldD 0 "Stairs" "_corners" (mCall F__corners_among (mCons (mVar 1) mNil))))
noncomputable def F_Stairs____init__ : Fn := mkFn 3 2 B_Stairs____init__
noncomputable def B__law_made : FS := (sSeq (sIf (mTb (m2H gEq (mV (m1H gLen (mHs 0))) (mV (mC (.int 0))))) (sRet (mMakeS "Stairs" F_Stairs____init__ mNil)) sNil)
  (sSeq (sIf (mTb (m2H gEq (mV (m1H gLen (mHs 0))) (mV (mC (.int 1))))) (sRet (mMakeS "Stairs" F_Stairs____init__ (mCons (m2H gIx (mHs 0) (mV (mC (.int 0)))) mNil))) sNil)
  (sSeq (sIf (mTb (m2H gEq (mV (m1H gLen (mHs 0))) (mV (mC (.int 2))))) (sRet (mMakeS "Stairs" F_Stairs____init__ (mCons (m2H gIx (mHs 0) (mV (mC (.int 0)))) (mCons (m2H gIx (mHs 0) (mV (mC (.int 1)))) mNil)))) sNil)
  (sSeq (sIf (mTb (m2H gEq (mV (m1H gLen (mHs 0))) (mV (mC (.int 3))))) (sRet (mMakeS "Stairs" F_Stairs____init__ (mCons (m2H gIx (mHs 0) (mV (mC (.int 0)))) (mCons (m2H gIx (mHs 0) (mV (mC (.int 1)))) (mCons (m2H gIx (mHs 0) (mV (mC (.int 2)))) mNil))))) sNil)
  (sSeq (sIf (mTb (m2H gEq (mV (m1H gLen (mHs 0))) (mV (mC (.int 4))))) (sRet (mMakeS "Stairs" F_Stairs____init__ (mCons (m2H gIx (mHs 0) (mV (mC (.int 0)))) (mCons (m2H gIx (mHs 0) (mV (mC (.int 1)))) (mCons (m2H gIx (mHs 0) (mV (mC (.int 2)))) (mCons (m2H gIx (mHs 0) (mV (mC (.int 3)))) mNil)))))) sNil)
  (sRet (mMakeS "Stairs" F_Stairs____init__ (mCons (m2H gIx (mHs 0) (mV (mC (.int 0)))) (mCons (m2H gIx (mHs 0) (mV (mC (.int 1)))) (mCons (m2H gIx (mHs 0) (mV (mC (.int 2)))) (mCons (m2H gIx (mHs 0) (mV (mC (.int 3)))) (mCons (m2H gIx (mHs 0) (mV (mC (.int 4)))) mNil))))))))))))
noncomputable def F__law_made : Fn := mkFn 1 1 B__law_made
noncomputable def B__law_has : FS := (sRet (m2H gNe (mV (mCompL (mVar 0) (gSet 2) (mTAnd (mTb (mLe (mV (m2H gIx (mHs 1) (mV (mC (.int 0))))) (mV (m2H gIx (mHs 2) (mV (mC (.int 0))))))) (mTb (mGe (mV (m2H gIx (mHs 1) (mV (mC (.int 1))))) (mV (m2H gIx (mHs 2) (mV (mC (.int 1)))))))) (mVar 2) [2])) (mV (mLst mNil))))
noncomputable def F__law_has : Fn := mkFn 3 2 B__law_has
noncomputable def B__law_corners : FS := (sSeq (sOwn 1 (mMk gLstD mNil))
  (sSeq (sForL (mVar 0) (gSet 2) (sSeq (sOwn 3 (mCompL (mVar 0) (gSet 5) (mTAnd (mTb (m2H gNe (mHs 5) (mHs 2))) (mTb (mCall F__law_has (mCons (mLst (mCons (mVar 5) mNil)) (mCons (mVar 2) mNil))))) (mVar 5) [5]))
  (sIf (mTAnd (mTb (m2H (gInL true) (mHs 2) (mHs 1))) (mTb (m2H gEq (mHs 3) (mV (mLst mNil))))) (sSeq (sAsg (gSet 4) (m1H gLen (mV (mCompH 1 (gSet 5) (mTb (mLt (mV (m2H gIx (mHs 5) (mV (mC (.int 0))))) (mV (m2H gIx (mHs 2) (mV (mC (.int 0))))))) (mVar 5) [5]))))
  (sInsert 1 (mVar 4) (mVar 2))) sNil)))
  (sRet (mVar 1))))
noncomputable def F__law_corners : Fn := mkFn 6 1 B__law_corners
noncomputable def B_Stairs__corners : FS := (sRetO (mCompL (m1H (gFld "Stairs" "_corners") (mHs 0)) (gUn ([1, 2].map gSet)) mYes (mTup (mCons (mVar 1) (mCons (mVar 2) mNil))) [1, 2]))
noncomputable def F_Stairs__corners : Fn := mkFnO 3 1 B_Stairs__corners
noncomputable def B_Stairs____len__ : FS := (sRet (m1H gLen (mV (m1H (gFld "Stairs" "_corners") (mHs 0)))))
noncomputable def F_Stairs____len__ : Fn := mkFn 1 1 B_Stairs____len__
noncomputable def B_Stairs____bool__ : FS := (sRet (mMk gBoolL (mCons (m1H (gFld "Stairs" "_corners") (mHs 0)) mNil)))
noncomputable def F_Stairs____bool__ : Fn := mkFn 1 1 B_Stairs____bool__
noncomputable def B_Stairs____eq__ : FS := (sRet (mAnd (m1H (gIsiO "Stairs") (mHs 1)) (m2H gEq (mV (m1H (gFld "Stairs" "_corners") (mHs 0))) (mV (m1H (gFld "Stairs" "_corners") (mHs 1))))))
noncomputable def F_Stairs____eq__ : Fn := mkFn 2 2 B_Stairs____eq__
noncomputable def B_Stairs__text : FS := (sRet (m2 gJoin (mC (.str ", ")) (mCompL (m1H (gFld "Stairs" "_corners") (mHs 0)) (gUn ([1, 2].map gSet)) mYes (mJs [(m1 gFmt (mVar 1)), (mC (.str " ")), (m1 gFmt (mVar 2))] Str.empty) [1, 2])))
noncomputable def F_Stairs__text : Fn := mkFn 3 1 B_Stairs__text
noncomputable def B_Stairs____contains__ : FS := (sSeq (sIf (mTNot (mTb (mCall F_is_pair (mCons (mVar 1) mNil)))) (sRet (mC (.bl false))) sNil)
  (sSeq (sForL (m1H (gFld "Stairs" "_corners") (mHs 0)) (gUn [(gSet 2), (gSet 3)]) (sIf (mTb (mLe (mV (m2H gIx (mHs 1) (mV (mC (.int 0))))) (mHs 2))) (sRet (mGe (mV (m2H gIx (mHs 1) (mV (mC (.int 1))))) (mHs 3))) sNil))
  (sRet (mC (.bl false)))))
noncomputable def F_Stairs____contains__ : Fn := mkFn 4 2 B_Stairs____contains__
noncomputable def B__law_any : FS := (sSeq (sAsg (gSet 1) (mLst (mCons (mC .non) (mCons (mC (.bl true)) (mCons (mC (.int 0)) (mCons (mC (.int 5)) (mCons (mC (.str "")) (mCons (mC (.str "1 2")) (mCons (mTup mNil) (mCons (mTup (mCons (mC (.int 1)) mNil)) (mCons (mTup (mCons (mC (.int 1)) (mCons (mC (.int 2)) (mCons (mC (.int 3)) mNil)))) (mCons (mLst (mCons (mC (.int 1)) (mCons (mC (.int 2)) mNil))) (mCons (mDicN []) (mCons (mTup (mCons (mC (.bl true)) (mCons (mC (.int 2)) mNil))) (mCons (mTup (mCons (mC (.int 1)) (mCons (mC (.bl true)) mNil))) (mCons (mTup (mCons (mC (.bl false)) (mCons (mC (.int 5)) mNil))) (mCons (mTup (mCons (mC (.int 2)) (mCons (mC (.int 1)) mNil))) mNil)))))))))))))))))
  (sRet (mCallO F__law_one_of 0 (mCons (mAddA (mHs 1) (mV (mLst (mCons (mTup (mCons (m1 gNeg (mC (.int 1))) (mCons (mC (.int 3)) mNil))) (mCons (mTup (mCons (mC (.int 0)) (mCons (mAddA (mV (mPow (mC (.int 10)) (mC (.int 6)))) (mV (mC (.int 1)))) mNil))) (mCons (mTup (mCons (mC (.int 1)) (mCons (mC (.str "2")) mNil))) (mCons (mTup (mCons (mTup (mCons (mC (.int 1)) (mCons (mC (.int 2)) mNil))) mNil)) (mCons (mTup (mCons (mC .non) (mCons (mC (.int 3)) mNil))) (mCons (mTup (mCons (mLst (mCons (mC (.int 1)) mNil)) (mCons (mC (.int 2)) mNil))) (mCons (mDic1 1 2) mNil)))))))))) mNil))))
noncomputable def F__law_any : Fn := mkFn 2 1 B__law_any
noncomputable def B_Stairs____or__ : FS := (sSeq (sAsg (gSet 2) (mLst (mStar (m1H (gFld "Stairs" "_corners") (mHs 0)) (mStar (m1H (gFld "Stairs" "_corners") (mHs 1)) mNil))))
  (sRet (mMakeS "Stairs" F_Stairs____init__ (mStar (mVar 2) mNil))))
noncomputable def F_Stairs____or__ : Fn := mkFn 3 2 B_Stairs____or__
noncomputable def B__shared_pairs : FS := (sSeq (sOwn 2 (mMk gLstD mNil))
  (sSeq (sAsg (gSet 3) (mC (.int 0)))
  (sSeq (sAsg (gSet 4) (mC (.int 0)))
  (sSeq (sWhile 100000 (mTAnd (mTb (mLt (mHs 3) (mV (m1H gLen (mHs 0))))) (mTb (mLt (mHs 4) (mV (m1H gLen (mHs 1)))))) (sSeq (sAsg (gSet 5) (mMk gMin2 (mCons (m2H gIx (mV (m2H gIx (mHs 0) (mHs 3))) (mV (mC (.int 0)))) (mCons (m2H gIx (mV (m2H gIx (mHs 1) (mHs 4))) (mV (mC (.int 0)))) mNil))))
  (sSeq (sAppend 2 (mTup (mCons (mVar 5) (mCons (mMk gMax2 (mCons (m2H gIx (mV (m2H gIx (mHs 0) (mHs 3))) (mV (mC (.int 1)))) (mCons (m2H gIx (mV (m2H gIx (mHs 1) (mHs 4))) (mV (mC (.int 1)))) mNil))) mNil))))
  (sIf (mTb (m2H gEq (mV (m2H gIx (mV (m2H gIx (mHs 0) (mHs 3))) (mV (mC (.int 0))))) (mHs 5))) (sAug 3 (gAugAdd) (mC (.int 1))) (sAug 4 (gAugAdd) (mC (.int 1)))))))
  (sRet (mVar 2))))))
noncomputable def F__shared_pairs : Fn := mkFn 6 2 B__shared_pairs
noncomputable def B_Stairs____and__ : FS := (sSeq (sAsg (gSet 2) (mCall F__shared_pairs (mCons (m1H (gFld "Stairs" "_corners") (mHs 0)) (mCons (m1H (gFld "Stairs" "_corners") (mHs 1)) mNil))))
  (sRet (mMakeS "Stairs" F_Stairs____init__ (mStar (mVar 2) mNil))))
noncomputable def F_Stairs____and__ : Fn := mkFn 3 2 B_Stairs____and__
noncomputable def B__law_pairs_right : FS := (sSeq (sForR3 (mCons (mC (.int 0)) (mCons (mC (.int 14)) (mCons (mC (.int 2)) mNil))) (gSet 4) (sForR3 (mCons (mVar 4) (mCons (mC (.int 22)) (mCons (mC (.int 3)) mNil))) (gSet 5) (sSeq (sAsg (gSet 6) (mLst (mCons (mCall F__law_has (mCons (mVar 1) (mCons (mTup (mCons (mVar 4) (mCons (mVar 5) mNil))) mNil))) (mCons (mCall F__law_has (mCons (mVar 2) (mCons (mTup (mCons (mVar 4) (mCons (mVar 5) mNil))) mNil))) mNil))))
  (sIf (mTb (m2H gNe (mV (m2H (gInL false) (mV (mTup (mCons (mVar 4) (mCons (mVar 5) mNil)))) (mHs 0))) (mV (mGt (mV (m1 gCountT (mVar 6))) (mHs 3))))) (sRet (mC (.bl false))) sNil))))
  (sRet (mC (.bl true))))
noncomputable def F__law_pairs_right : Fn := mkFn 7 4 B__law_pairs_right
noncomputable def B__law_common : FS := (sSeq (sOwn 2 (mMk gLstD mNil))
  (sSeq (sForL (mVar 0) (gSet 3) (sForL (mVar 1) (gSet 4) (sSeq (sPar [5, 6] (mCons (m2H gIx (mHs 3) (mV (mC (.int 0)))) (mCons (m2H gIx (mHs 3) (mV (mC (.int 1)))) mNil)))
  (sSeq (sIf (mTb (mLt (mV (m2H gIx (mHs 4) (mV (mC (.int 0))))) (mHs 5))) (sAsg (gSet 5) (m2H gIx (mHs 4) (mV (mC (.int 0))))) sNil)
  (sSeq (sIf (mTb (mGt (mV (m2H gIx (mHs 4) (mV (mC (.int 1))))) (mHs 6))) (sAsg (gSet 6) (m2H gIx (mHs 4) (mV (mC (.int 1))))) sNil)
  (sAppend 2 (mTup (mCons (mVar 5) (mCons (mVar 6) mNil)))))))))
  (sRet (mVar 2))))
noncomputable def F__law_common : Fn := mkFn 7 2 B__law_common
noncomputable def B_Stairs__within : FS := (sRet (mCmpX "Stairs" F_Stairs____eq__ false (mOpO "Stairs" F_Stairs____and__ (mVar 0) (mVar 1)) (mVar 0)))
noncomputable def F_Stairs__within : Fn := mkFn 2 2 B_Stairs__within
end PL


set_option Elab.async false
set_option linter.all false
namespace FL
abbrev PP := Int × Int
def pushC (rev : List PP) (p : PP) : List PP := match rev.dropWhile (fun q => decide (p.2 ≤ q.2)) with
  | [] => [p]
  | q :: t => if q.1 < p.1 then p :: q :: t else q :: t
/-- v lies in a pair of the list -/
def Has (l : List PP) (v : PP) : Prop := ∃ q ∈ l, v.1 ≤ q.1 ∧ q.2 ≤ v.2
structure CInv (rev done : List PP) : Prop where
  pw : rev.Pairwise fun a b => b.1 < a.1 ∧ b.2 < a.2
  iff : ∀ v, Has rev v ↔ Has done v
  sub : ∀ q ∈ rev, q ∈ done
theorem cinv_nil : CInv [] [] := ⟨.nil, fun _ => Iff.rfl, fun _ h => h⟩
theorem mem_takeWhile {f : PP → Bool} : ∀ {l : List PP} {q : PP}, q ∈ l.takeWhile f → f q = true
  | x :: l, q, h => by
    rw [List.takeWhile_cons] at h
    split at h
    · rename_i hx
      rcases List.mem_cons.mp h with rfl | h
      · exact hx
      · exact mem_takeWhile h
    · cases h
theorem head_dropWhile {f : PP → Bool} : ∀ {l : List PP} {q : PP} {t : List PP}, l.dropWhile f = q :: t → f q = false
  | x :: l, q, t, h => by
    rw [List.dropWhile_cons] at h
    split at h
    · exact head_dropWhile h
    · rename_i hx
      cases h
      simpa using hx
theorem CInv.push {rev done : List PP} {p : PP} (I : CInv rev done) (hle : ∀ q ∈ done, q.1 < p.1 ∨ (q.1 = p.1 ∧ q.2 ≤ p.2)) : CInv (pushC rev p) (done ++ [p]) := by
  have split : rev.takeWhile (fun q => decide (p.2 ≤ q.2)) ++ rev.dropWhile (fun q => decide (p.2 ≤ q.2)) = rev := List.takeWhile_append_dropWhile
  have tk : ∀ q ∈ rev.takeWhile (fun q => decide (p.2 ≤ q.2)), p.2 ≤ q.2 ∧ q.1 ≤ p.1 := fun q hq => by
    have a := mem_takeWhile hq
    have b := hle q (I.sub q (by rw [← split]; exact List.mem_append_left _ hq))
    refine ⟨by simpa using a, by omega⟩
  have back : ∀ v, Has (done ++ [p]) v → Has rev v ∨ (v.1 ≤ p.1 ∧ p.2 ≤ v.2) := fun v ⟨q, hq, h⟩ => by
    rcases List.mem_append.mp hq with hq | hq
    · exact .inl ((I.iff v).mpr ⟨q, hq, h⟩)
    · simp at hq; subst hq; exact .inr h
  have old : ∀ v, Has rev v → (v.1 ≤ p.1 ∧ p.2 ≤ v.2) ∨ Has (rev.dropWhile (fun q => decide (p.2 ≤ q.2))) v := fun v ⟨q, hq, h1, h2⟩ => by
    rw [← split] at hq
    rcases List.mem_append.mp hq with hq | hq
    · have := tk q hq
      exact .inl ⟨by omega, by omega⟩
    · exact .inr ⟨q, hq, h1, h2⟩
  have dsub : ∀ q ∈ rev.dropWhile (fun q => decide (p.2 ≤ q.2)), q ∈ rev := fun q hq => by rw [← split]; exact List.mem_append_right _ hq
  have dpw : (rev.dropWhile (fun q => decide (p.2 ≤ q.2))).Pairwise fun a b => b.1 < a.1 ∧ b.2 < a.2 := by
    have z := I.pw
    rw [← split] at z
    exact (List.pairwise_append.mp z).2.1
  unfold pushC
  cases e : rev.dropWhile (fun q => decide (p.2 ≤ q.2)) with
  | nil =>
    refine ⟨List.pairwise_singleton _ _, fun v => ⟨fun ⟨q, hq, h⟩ => ⟨q, List.mem_append_right _ hq, h⟩, fun h => ?_⟩, fun q hq => List.mem_append_right _ hq⟩
    rcases back v h with h | h
    · rcases old v h with h | ⟨q, hq, _⟩
      · exact ⟨p, List.mem_singleton.mpr rfl, h⟩
      · rw [e] at hq; cases hq
    · exact ⟨p, List.mem_singleton.mpr rfl, h⟩
  | cons q0 t =>
    have hq0 : q0.2 < p.2 := by
      have := head_dropWhile e
      simpa using this
    rw [e] at dsub dpw old
    have m0 := I.sub q0 (dsub q0 List.mem_cons_self)
    have l0 := hle q0 m0
    have dt := (List.pairwise_cons.mp dpw).1
    by_cases hc : q0.1 < p.1
    · show CInv (if q0.1 < p.1 then p :: q0 :: t else q0 :: t) _
      rw [if_pos hc]
      refine ⟨List.pairwise_cons.mpr ⟨fun b hb => ?_, dpw⟩, fun v => ⟨fun ⟨q, hq, h⟩ => ?_, fun h => ?_⟩, fun q hq => ?_⟩
      · rcases List.mem_cons.mp hb with rfl | hb
        · exact ⟨hc, hq0⟩
        · have := dt b hb
          exact ⟨by omega, by omega⟩
      · rcases List.mem_cons.mp hq with rfl | hq
        · exact ⟨_, List.mem_append_right _ (List.mem_singleton.mpr rfl), h⟩
        · exact ⟨q, List.mem_append_left _ (I.sub q (dsub q hq)), h⟩
      · rcases back v h with h | h
        · rcases old v h with h | ⟨q, hq, h⟩
          · exact ⟨p, List.mem_cons_self, h⟩
          · exact ⟨q, List.mem_cons_of_mem _ hq, h⟩
        · exact ⟨p, List.mem_cons_self, h⟩
      · rcases List.mem_cons.mp hq with rfl | hq
        · exact List.mem_append_right _ (List.mem_singleton.mpr rfl)
        · exact List.mem_append_left _ (I.sub q (dsub q hq))
    · show CInv (if q0.1 < p.1 then p :: q0 :: t else q0 :: t) _
      rw [if_neg hc]
      have ph : ∀ v : PP, v.1 ≤ p.1 ∧ p.2 ≤ v.2 → Has (q0 :: t) v := fun v h => ⟨q0, List.mem_cons_self, by omega, by omega⟩
      refine ⟨dpw, fun v => ⟨fun ⟨q, hq, h⟩ => ⟨q, List.mem_append_left _ (I.sub q (dsub q hq)), h⟩, fun h => ?_⟩, fun q hq => List.mem_append_left _ (I.sub q (dsub q hq))⟩
      rcases back v h with h | h
      · rcases old v h with h | h
        · exact ph v h
        · exact h
      · exact ph v h
/-- the corners of the pairs, the last one ahead -/
def cornR (ps : List PP) : List PP := (sortP ps).foldl pushC []
theorem cinv_fold : ∀ (l : List PP) (rev done : List PP), CInv rev done → (done ++ l).Pairwise (fun a b => leP a b = true) → CInv (l.foldl pushC rev) (done ++ l)
  | [], rev, done, I, _ => by rw [List.append_nil]; exact I
  | p :: l, rev, done, I, h => by
    have e : done ++ p :: l = (done ++ [p]) ++ l := by simp
    rw [e] at h ⊢
    refine cinv_fold l (pushC rev p) (done ++ [p]) (I.push fun q hq => ?_) h
    have a := (List.pairwise_append.mp (List.pairwise_append.mp h).1).2.2 q hq p (List.mem_singleton.mpr rfl)
    exact leP_iff.mp a
theorem corn_inv (ps : List PP) : CInv (cornR ps) (sortP ps) := by
  have := cinv_fold (sortP ps) [] [] cinv_nil (by rw [List.nil_append]; exact sortP_sorted ps)
  rwa [List.nil_append] at this
theorem corn_has (ps : List PP) (v : PP) : Has (cornR ps) v ↔ Has ps v := by
  rw [(corn_inv ps).iff v]
  exact ⟨fun ⟨q, hq, h⟩ => ⟨q, (sortP_perm ps).mem_iff.mp hq, h⟩, fun ⟨q, hq, h⟩ => ⟨q, (sortP_perm ps).mem_iff.mpr hq, h⟩⟩
/-- what the search among the corners finds -/
def contF : List PP → PP → Bool
  | [], _ => false
  | q :: r, v => if v.1 ≤ q.1 then decide (q.2 ≤ v.2) else contF r v
theorem contF_iff : ∀ (l : List PP) (v : PP), l.Pairwise (fun a b => a.1 < b.1 ∧ a.2 < b.2) → (contF l v = true ↔ Has l v)
  | [], v, _ => ⟨fun h => (by cases h), fun ⟨_, h, _⟩ => (by cases h)⟩
  | q :: r, v, h => by
    obtain ⟨h1, h2⟩ := List.pairwise_cons.mp h
    unfold contF
    by_cases c : v.1 ≤ q.1
    · rw [if_pos c]
      refine ⟨fun z => ⟨q, List.mem_cons_self, c, by simpa using z⟩, fun ⟨y, hy, a, b⟩ => ?_⟩
      rcases List.mem_cons.mp hy with rfl | hy
      · simpa using b
      · have := (h1 y hy).2
        simp; omega
    · rw [if_neg c, contF_iff r v h2]
      refine ⟨fun ⟨y, hy, z⟩ => ⟨y, List.mem_cons_of_mem _ hy, z⟩, fun ⟨y, hy, a, b⟩ => ?_⟩
      rcases List.mem_cons.mp hy with rfl | hy
      · exact absurd a c
      · exact ⟨y, hy, a, b⟩
theorem corn_cont (ps : List PP) (v : PP) : contF (cornR ps).reverse v = true ↔ Has ps v := by
  refine (contF_iff _ _ (by
    rw [List.pairwise_reverse]
    exact (corn_inv ps).pw)).trans (Iff.trans ⟨fun ⟨q, hq, h⟩ => ⟨q, List.mem_reverse.mp hq, h⟩, fun ⟨q, hq, h⟩ => ⟨q, List.mem_reverse.mpr hq, h⟩⟩ (corn_has ps v))
theorem push_len (rev : List PP) (p : PP) : (pushC rev p).length ≤ rev.length + 1 := by
  have h : (rev.dropWhile (fun q => decide (p.2 ≤ q.2))).length ≤ rev.length := (List.dropWhile_sublist _).length_le
  unfold pushC
  split
  · simp
  · rename_i q t e
    rw [e] at h
    simp only [List.length_cons] at h
    split <;> simp <;> omega
end FL

namespace PL
open PySem PySem.Spec PyProof.Rows L2 FL
set_option maxRecDepth 100000
set_option maxHeartbeats 1000000
set_option linter.all false
theorem draws : Draws F__law_pick := by
  intro d m s ⟨h0, h1, h2⟩ h3 h4
  by_cases hd : s ≤ d
  · refine ⟨d % s, d / s, m, ?_, Int.emod_nonneg _ (by omega), Int.emod_lt_of_pos _ h3, Int.ediv_nonneg h0 (by omega), h1, h2⟩
    simp [F__law_pick, B__law_pick, Sack, getD1, getM1, putD1, putM1, hd, h3, h4, kne, kne', mC, mVar, mHs, mV, FL.m2, m2H, FL.m1, m1H, mNil, mCons, mMk, mTb, mTNot, mTAnd, mTOr, mTru, mAnd, mOr, mIf, mChain, sSeq, sNil, sIf, sRet, sDrop, sAsg, gSet, gSets, gUn, lentS_un, lentS_sh, lentS_owt, deref, gI, gB, gNeg, gNot, gTupD, gLstD, szOk, truD, cMod, cDiv, mkFn, mkFnO, endF, FL.cut, FL.cutS, mCall, mCallO, mCallK, sOwn, sRetO, sRetV, gIx, gDGet, keyD, getK, putKD, sDPutD, mDispN, mDicN, gAdd, gMul, gSl, mPn, mPs, mSl, cutA, HT.sIx, gMin2, gMax2, gList, gTuple, gLen, gIsi, isObjD, kindN, isiB, sForL, sForT, sForR, itemsD, rgOk, sPar, cond_true, cond_false, sizeLine_eq, sAppend, mPop]
  · have e1 : cMul m 40014 = true := cMul_ok 64 64 (b64 (by omega)) (b64 (by decide)) (by decide)
    generalize hm : (m * 40014 + 1013) % 2147483563 = x1
    have a1 : 0 ≤ x1 := by omega
    have a2 : x1 < 2147483563 := by omega
    have e2 : cPow x1 2 = true := cPow_ok 64 9 (b64 (by omega)) (by decide) (by decide) (by decide)
    generalize hq : x1 ^ 2 % 2147483399 = q1
    have b1 : 0 ≤ q1 := by omega
    have b2 : q1 < 2147483399 := by omega
    have e3 : cPow q1 3 = true := cPow_ok 64 9 (b64 (by omega)) (by decide) (by decide) (by decide)
    refine ⟨q1 ^ 3 % 998244353 / 5 % s, d, x1, ?_, Int.emod_nonneg _ (by omega), Int.emod_lt_of_pos _ h3, h0, a1, by omega⟩
    simp [F__law_pick, B__law_pick, Sack, getD1, getM1, putD1, putM1, hd, h3, h4, kne, kne', e1, hm, e2, hq, e3, mC, mVar, mHs, mV, FL.m2, m2H, FL.m1, m1H, mNil, mCons, mMk, mTb, mTNot, mTAnd, mTOr, mTru, mAnd, mOr, mIf, mChain, sSeq, sNil, sIf, sRet, sDrop, sAsg, gSet, gSets, gUn, lentS_un, lentS_sh, lentS_owt, deref, gI, gB, gNeg, gNot, gTupD, gLstD, szOk, truD, cMod, cDiv, mkFn, mkFnO, endF, FL.cut, FL.cutS, mCall, mCallO, mCallK, sOwn, sRetO, sRetV, gIx, gDGet, keyD, getK, putKD, sDPutD, mDispN, mDicN, gAdd, gMul, gSl, mPn, mPs, mSl, cutA, HT.sIx, gMin2, gMax2, gList, gTuple, gLen, gIsi, isObjD, kindN, isiB, sForL, sForT, sForR, itemsD, rgOk, sPar, cond_true, cond_false, sizeLine_eq, sAppend, mPop]
theorem chooses : Chooses F__law_one_of := by
  intro d m xs ok hx hl
  have hp : 0 < xs.length := List.length_pos_iff.mpr hx
  obtain ⟨r, d', m', q, r0, r1, ok'⟩ := draws d m xs.length ok (by omega) (by omega)
  obtain ⟨x, qx, mx⟩ := atI_of r0 r1
  refine ⟨x, d', m', ?_, mx, ok'⟩
  simp [F__law_one_of, B__law_one_of, q, qx, mC, mVar, mHs, mV, FL.m2, m2H, FL.m1, m1H, mNil, mCons, mMk, mTb, mTNot, mTAnd, mTOr, mTru, mAnd, mOr, mIf, mChain, sSeq, sNil, sIf, sRet, sDrop, sAsg, gSet, gSets, gUn, lentS_un, lentS_sh, lentS_owt, deref, gI, gB, gNeg, gNot, gTupD, gLstD, szOk, truD, cMod, cDiv, mkFn, mkFnO, endF, FL.cut, FL.cutS, mCall, mCallO, mCallK, sOwn, sRetO, sRetV, gIx, gDGet, keyD, getK, putKD, sDPutD, mDispN, mDicN, gAdd, gMul, gSl, mPn, mPs, mSl, cutA, HT.sIx, gMin2, gMax2, gList, gTuple, gLen, gIsi, isObjD, kindN, isiB, sForL, sForT, sForR, itemsD, rgOk, sPar, cond_true, cond_false, sizeLine_eq, sAppend, mPop]
theorem sq_bits7 {e m : Int} (he : Builtin.Int.intBits e ≤ 1048576) (h0 : 0 ≤ m) (h1 : m < 4503599627370496) : Builtin.Int.intBits (m + e * e + 7) ≤ 2097153 := by
  have a1 : e.natAbs < 2 ^ 1048576 := Nat.lt_of_lt_of_le (PyProof.Rows.natAbs_lt_pow_bits e) (Nat.pow_le_pow_right (by decide) he)
  revert a1
  generalize hk : (1048576 : Nat) = k at *
  intro a1
  have a2 : e.natAbs * e.natAbs < 2 ^ k * 2 ^ k := Nat.mul_lt_mul'' a1 a1
  rw [← Nat.pow_add] at a2
  have a3 : (4611686018427387904 : Nat) ≤ 2 ^ (k + k) := by
    have : (4611686018427387904 : Nat) = 2 ^ 62 := by decide
    rw [this]
    exact Nat.pow_le_pow_right (by decide) (by omega)
  have a4 : (e * e).natAbs = e.natAbs * e.natAbs := Int.natAbs_mul e e
  have ek : (2097153 : Nat) = k + k + 1 := by omega
  rw [ek]
  refine PyProof.Rows.intBits_le ?_
  rw [Nat.pow_succ]
  generalize 2 ^ (k + k) = B at a2 a3 ⊢
  omega
theorem makes : MakesSack F__law_tape := by
  intro ns st hb h0 h1
  have key : ∀ d ∈ ns.map D.int, ∀ e : En, (∃ m x y, e = [.sh (.scr ns), .sh (.int st), .sh (.int m), x, y] ∧ lentS x = false ∧ lentS y = false ∧ 0 ≤ m ∧ m < 4294967296) →
      ∃ e1 e2, gSet 3 d e = some e1 ∧ (sAsg (gSet 2) (mAddA (mV (mMod (mPow (mAddA (mV (mAddA (mV (mMulA (mHs 2) (mV (mC (.int 30011))))) (mV (mMulA (mHs 3) (mHs 3))))) (mV (mC (.int 7)))) (mC (.int 2))) (mC (.int 2147483563)))) (mV (mC (.int 2))))) e1 = some (.nx e2) ∧ (∃ m x y, e2 = [.sh (.scr ns), .sh (.int st), .sh (.int m), x, y] ∧ lentS x = false ∧ lentS y = false ∧ 0 ≤ m ∧ m < 4294967296) := by
    rintro d hd e ⟨m, x, y, rfl, hx, hy, m0, m1⟩
    obtain ⟨z, hz, rfl⟩ := List.mem_map.mp hd
    have bz := hb z hz
    have e1 : cMul m 30011 = true := cMul_ok 64 64 (b64 (by omega)) (b64 (by decide)) (by decide)
    have e2 : cMul z z = true := cMul_ok 1048576 1048576 bz bz (by decide)
    have e3 : cPow (m * 30011 + z * z + 7) 2 = true := cPow_ok 2097153 9 (sq_bits7 bz (by omega) (by omega)) (by decide) (by decide) (by decide)
    generalize hq : (m * 30011 + z * z + 7) ^ 2 % 2147483563 = w
    refine ⟨_, [.sh (.scr ns), .sh (.int st), .sh (.int (w + 2)), .sh (.int z), y], (by simp [hx, mC, mVar, mHs, mV, FL.m2, m2H, FL.m1, m1H, mNil, mCons, mMk, mTb, mTNot, mTAnd, mTOr, mTru, mAnd, mOr, mIf, mChain, sSeq, sNil, sIf, sRet, sDrop, sAsg, gSet, gSets, gUn, lentS_un, lentS_sh, lentS_owt, deref, gI, gB, gNeg, gNot, gTupD, gLstD, szOk, truD, cMod, cDiv, mkFn, mkFnO, endF, FL.cut, FL.cutS, mCall, mCallO, mCallK, sOwn, sRetO, sRetV, gIx, gDGet, keyD, getK, putKD, sDPutD, mDispN, mDicN, gAdd, gMul, gSl, mPn, mPs, mSl, cutA, HT.sIx, gMin2, gMax2, gList, gTuple, gLen, gIsi, isObjD, kindN, isiB, sForL, sForT, sForR, itemsD, rgOk, sPar, cond_true, cond_false, sizeLine_eq, sAppend, mPop]; rfl), ?_, _, _, _, rfl, rfl, hy, by omega, by omega⟩
    simp [e1, e2, e3, hq, hx, mC, mVar, mHs, mV, FL.m2, m2H, FL.m1, m1H, mNil, mCons, mMk, mTb, mTNot, mTAnd, mTOr, mTru, mAnd, mOr, mIf, mChain, sSeq, sNil, sIf, sRet, sDrop, sAsg, gSet, gSets, gUn, lentS_un, lentS_sh, lentS_owt, deref, gI, gB, gNeg, gNot, gTupD, gLstD, szOk, truD, cMod, cDiv, mkFn, mkFnO, endF, FL.cut, FL.cutS, mCall, mCallO, mCallK, sOwn, sRetO, sRetV, gIx, gDGet, keyD, getK, putKD, sDPutD, mDispN, mDicN, gAdd, gMul, gSl, mPn, mPs, mSl, cutA, HT.sIx, gMin2, gMax2, gList, gTuple, gLen, gIsi, isObjD, kindN, isiB, sForL, sForT, sForR, itemsD, rgOk, sPar, cond_true, cond_false, sizeLine_eq, sAppend, mPop]
  obtain ⟨e', q, m, x, y, rfl, hx, hy, m0, m1⟩ := loop_nx _ (ns.map .int) key [.sh (.scr ns), .sh (.int st), .sh (.int (97 + st * 31)), .un, .un] ⟨_, _, _, rfl, rfl, rfl, by omega, by omega⟩
  have e0 : cMul st 31 = true := cMul_ok 64 64 (b64 (by omega)) (b64 (by decide)) (by decide)
  have e10 : cPow 10 18 = true := cPow_ok 64 18 (b64 (by decide)) (by decide) (by decide) (by decide)
  by_cases hs : st < ns.length
  · obtain ⟨v, qv, _⟩ := atI_of h0 hs
    by_cases hv : 1000000000000000000 ≤ v
    · refine ⟨v - 1000000000000000000, m, [.un, .un], ?_, by omega, m0, m1⟩
      simp [F__law_tape, B__law_tape, Sack, q, e0, e10, hs, qv, hv, hx, hy, mC, mVar, mHs, mV, FL.m2, m2H, FL.m1, m1H, mNil, mCons, mMk, mTb, mTNot, mTAnd, mTOr, mTru, mAnd, mOr, mIf, mChain, sSeq, sNil, sIf, sRet, sDrop, sAsg, gSet, gSets, gUn, lentS_un, lentS_sh, lentS_owt, deref, gI, gB, gNeg, gNot, gTupD, gLstD, szOk, truD, cMod, cDiv, mkFn, mkFnO, endF, FL.cut, FL.cutS, mCall, mCallO, mCallK, sOwn, sRetO, sRetV, gIx, gDGet, keyD, getK, putKD, sDPutD, mDispN, mDicN, gAdd, gMul, gSl, mPn, mPs, mSl, cutA, HT.sIx, gMin2, gMax2, gList, gTuple, gLen, gIsi, isObjD, kindN, isiB, sForL, sForT, sForR, itemsD, rgOk, sPar, cond_true, cond_false, sizeLine_eq, sAppend, mPop]
    · refine ⟨0, m, [.un, .un], ?_, by omega, m0, m1⟩
      simp [F__law_tape, B__law_tape, Sack, q, e0, e10, hs, qv, hv, hx, hy, mC, mVar, mHs, mV, FL.m2, m2H, FL.m1, m1H, mNil, mCons, mMk, mTb, mTNot, mTAnd, mTOr, mTru, mAnd, mOr, mIf, mChain, sSeq, sNil, sIf, sRet, sDrop, sAsg, gSet, gSets, gUn, lentS_un, lentS_sh, lentS_owt, deref, gI, gB, gNeg, gNot, gTupD, gLstD, szOk, truD, cMod, cDiv, mkFn, mkFnO, endF, FL.cut, FL.cutS, mCall, mCallO, mCallK, sOwn, sRetO, sRetV, gIx, gDGet, keyD, getK, putKD, sDPutD, mDispN, mDicN, gAdd, gMul, gSl, mPn, mPs, mSl, cutA, HT.sIx, gMin2, gMax2, gList, gTuple, gLen, gIsi, isObjD, kindN, isiB, sForL, sForT, sForR, itemsD, rgOk, sPar, cond_true, cond_false, sizeLine_eq, sAppend, mPop]
  · refine ⟨0, m, [.un, .un], ?_, by omega, m0, m1⟩
    simp [F__law_tape, B__law_tape, Sack, q, e0, e10, hs, hx, hy, mC, mVar, mHs, mV, FL.m2, m2H, FL.m1, m1H, mNil, mCons, mMk, mTb, mTNot, mTAnd, mTOr, mTru, mAnd, mOr, mIf, mChain, sSeq, sNil, sIf, sRet, sDrop, sAsg, gSet, gSets, gUn, lentS_un, lentS_sh, lentS_owt, deref, gI, gB, gNeg, gNot, gTupD, gLstD, szOk, truD, cMod, cDiv, mkFn, mkFnO, endF, FL.cut, FL.cutS, mCall, mCallO, mCallK, sOwn, sRetO, sRetV, gIx, gDGet, keyD, getK, putKD, sDPutD, mDispN, mDicN, gAdd, gMul, gSl, mPn, mPs, mSl, cutA, HT.sIx, gMin2, gMax2, gList, gTuple, gLen, gIsi, isObjD, kindN, isiB, sForL, sForT, sForR, itemsD, rgOk, sPar, cond_true, cond_false, sizeLine_eq, sAppend, mPop]
end PL

namespace PL
open PySem PySem.Spec PyProof.Rows L2 FL
set_option maxRecDepth 100000
set_option maxHeartbeats 8000000
set_option linter.all false
theorem p6 : cPow 10 6 = true := cPow_ok 64 70 (b64 (by decide)) (by decide) (by decide) (by decide)
theorem r9 : cRep 9 1 = true := chk_yes ⟨by decide, by decide, by decide⟩
/-- a pair of days -/
def Pr (p : Int × Int) : Prop := 0 ≤ p.1 ∧ p.1 ≤ p.2 ∧ p.2 ≤ 1000000
theorem pair (d m : Int) (ok : SackOk d m) : ∃ p d' m', F__law_pair [.ow false (Sack d m)] = some (tupP p, [.ow false (Sack d' m')]) ∧ Pr p ∧ SackOk d' m' := by
  obtain ⟨r1, d1, m1, q1, a1, b1, ok⟩ := draws d m 13 ok (by decide) (by decide)
  obtain ⟨x2, d2, m2, q2, h2, ok⟩ := chooses d1 m1 [.int 1, .int 4, .int 9] ok (by simp) (by simp)
  obtain ⟨z2, rfl, a2, b2⟩ : ∃ z, x2 = .int z ∧ 0 < z ∧ z < 10 := by
    simp at h2
    rcases h2 with rfl | rfl | rfl <;> exact ⟨_, rfl, by omega, by omega⟩
  obtain ⟨r3, d3, m3, q3, a3, b3, ok⟩ := draws d2 m2 z2 ok a2 (by omega)
  obtain ⟨x4, d4, m4, q4, h4, ok⟩ := chooses d3 m3 [tupP (r1, r1 + r3), tupP (r1, r1 + r3), tupP (r1, r1 + r3), tupP (r1, r1 + r3), tupP (r1, r1 + r3), tupP (r1, r1 + r3), tupP (r1, r1 + r3), tupP (r1, r1 + r3), tupP (r1, r1 + r3), tupP (0, 1000000), tupP (0, 0), tupP (1000000, 1000000)] ok (by simp) (by simp)
  obtain ⟨p, rfl, hp⟩ : ∃ p, x4 = tupP p ∧ Pr p := by
    simp at h4
    rcases h4 with rfl | rfl | rfl | rfl <;> refine ⟨_, rfl, ?_⟩ <;> unfold Pr <;> simp <;> omega
  refine ⟨p, d4, m4, ?_, hp, ok⟩
  simp only [tupP] at q4
  simp [F__law_pair, B__law_pair, q1, q2, q3, q4, p6, r9, tupP, mC, mVar, mHs, mV, FL.m2, m2H, FL.m1, m1H, mNil, mCons, mMk, mTb, mTNot, mTAnd, mTOr, mTru, mAnd, mOr, mIf, mChain, sSeq, sNil, sIf, sRet, sDrop, sAsg, gSet, gSets, gUn, lentS_un, lentS_sh, lentS_owt, deref, gI, gB, gNeg, gNot, gTupD, gLstD, szOk, truD, cMod, cDiv, mkFn, mkFnO, endF, FL.cut, FL.cutS, mCall, mCallO, mCallK, sOwn, sRetO, sRetV, gIx, gDGet, keyD, getK, putKD, sDPutD, mDispN, mDicN, gAdd, gMul, gSl, mPn, mPs, mSl, cutA, HT.sIx, gMin2, gMax2, gList, gTuple, gLen, gIsi, isObjD, kindN, isiB, sForL, sForT, sForR, itemsD, rgOk, sPar, cond_true, cond_false, sizeLine_eq, sAppend, mPop]
end PL

namespace PL
open PySem PySem.Spec PyProof.Rows L2 FL
set_option maxRecDepth 100000
set_option maxHeartbeats 8000000
set_option linter.all false
theorem pairsC (n : Int) : ∀ (ds : List D) (d m : Int), SackOk d m → ∃ (ps : List (Int × Int)) (d' m' : Int), compF [2] (gSet 2) mYes (mCallO F__law_pair 0 mNil) ds [.ow false (Sack d m), .sh (.int n), .un] = some (ps.map tupP, [.ow false (Sack d' m'), .sh (.int n), .un]) ∧ ps.length = ds.length ∧ (∀ p ∈ ps, Pr p) ∧ SackOk d' m'
  | [], d, m, ok => ⟨[], d, m, rfl, rfl, (fun _ h => by cases h), ok⟩
  | x :: ds, d, m, ok => by
    obtain ⟨p, d1, m1, q1, hp, ok⟩ := pair d m ok
    obtain ⟨ps, d2, m2, q2, hl, hps, ok⟩ := pairsC n ds d1 m1 ok
    refine ⟨p :: ps, d2, m2, ?_, by simp [hl], fun y hy => ?_, ok⟩
    · simp [compF, freeE, isOw, wipeE, lend, backC, backCS, gSet, lentS_un, mYes, mCallO, mNil, q1, q2]
    · rcases List.mem_cons.mp hy with rfl | hy
      · exact hp
      · exact hps y hy
theorem rg (r : Int) (h0 : 0 ≤ r) (h1 : r < 1000) : rgOk r = true := by
  unfold rgOk
  simp only [Bool.and_eq_true, decide_eq_true_eq]
  omega
theorem law_pairs (d m : Int) (ok : SackOk d m) : ∃ (ps : List (Int × Int)) (d' m' : Int), F__law_pairs [.ow false (Sack d m), .sh (.int 5)] = some (.lst (ps.map tupP), [.ow false (Sack d' m'), .un]) ∧ ps.length ≤ 5 ∧ (∀ p ∈ ps, Pr p) ∧ SackOk d' m' := by
  obtain ⟨r, d1, m1, q1, a1, b1, ok⟩ := draws d m 6 ok (by decide) (by decide)
  obtain ⟨ps, d2, m2, q2, hl, hps, ok⟩ := pairsC 5 (upTo r.toNat) d1 m1 ok
  have hl5 : ps.length ≤ 5 := by
    rw [hl]; unfold FL.upTo; simp; omega
  have hr1 : -4611686018427387904 ≤ r := by omega
  have hr2 : r < 4611686018427387904 := by omega
  have hc : cLen ps.length = true := by unfold cLen; simp; omega
  refine ⟨ps, d2, m2, ?_, hl5, hps, ok⟩
  simp [F__law_pairs, B__law_pairs, mCompR, q1, q2, hr1, hr2, hc, mC, mVar, mHs, mV, FL.m2, m2H, FL.m1, m1H, mNil, mCons, mMk, mTb, mTNot, mTAnd, mTOr, mTru, mAnd, mOr, mIf, mChain, sSeq, sNil, sIf, sRet, sDrop, sAsg, gSet, gSets, gUn, lentS_un, lentS_sh, lentS_owt, deref, gI, gB, gNeg, gNot, gTupD, gLstD, szOk, truD, cMod, cDiv, mkFn, mkFnO, endF, FL.cut, FL.cutS, mCall, mCallO, mCallK, sOwn, sRetO, sRetV, gIx, gDGet, keyD, getK, putKD, sDPutD, mDispN, mDicN, gAdd, gMul, gSl, mPn, mPs, mSl, cutA, HT.sIx, gMin2, gMax2, gList, gTuple, gLen, gIsi, isObjD, kindN, isiB, sForL, sForT, sForR, itemsD, rgOk, sPar, cond_true, cond_false, sizeLine_eq, sAppend, mPop]
end PL

namespace PL
open PySem PySem.Spec PyProof.Rows L2 FL
set_option maxRecDepth 100000
set_option maxHeartbeats 8000000
set_option linter.all false
theorem at_last (ys : List D) (x : D) : atI (ys ++ [x]) (-1) = some x := by
  unfold atI ixN
  rw [if_neg (by decide), if_pos (by simp; omega)]
  have e : (-1 + ((ys ++ [x]).length : Int)).toNat = ys.length := by simp; omega
  show (ys ++ [x])[(-1 + ((ys ++ [x]).length : Int)).toNat]? = some x
  rw [e]
  simp
theorem get_last (ys : List D) (x : D) : (ys ++ [x])[ys.length]? = some x := by simp
noncomputable def tstC : M Bool := (mTAnd (mTru (mHs 1)) (mTb (mGe (mV (m2H gIx (mV (m2H gIx (mHs 1) (mV (m1 gNeg (mC (.int 1)))))) (mV (mC (.int 1))))) (mHs 3))))
def L (rev : List PP) : D := .lst (rev.reverse.map tupP)
theorem L_cons (q : PP) (t : List PP) : L (q :: t) = .lst (t.reverse.map tupP ++ [tupP q]) := by simp [L]
theorem tst_nil (a x2 : Sl) (k : Int) : tstC [a, .ow true (L []), x2, .sh (.int k)] = some (false, [a, .ow true (L []), x2, .sh (.int k)]) := by
  simp [tstC, L, mC, mVar, mHs, mV, FL.m2, m2H, FL.m1, m1H, mNil, mCons, mMk, mTb, mTNot, mTAnd, mTOr, mTru, mAnd, mOr, mIf, mChain, sSeq, sNil, sIf, sRet, sDrop, sAsg, gSet, gSets, gUn, lentS_un, lentS_sh, lentS_owt, deref, gI, gB, gNeg, gNot, gTupD, gLstD, szOk, truD, cMod, cDiv, mkFn, mkFnO, endF, FL.cut, FL.cutS, mCall, mCallO, mCallK, sOwn, sRetO, sRetV, gIx, gDGet, keyD, getK, putKD, sDPutD, mDispN, mDicN, gAdd, gMul, gSl, mPn, mPs, mSl, cutA, HT.sIx, gMin2, gMax2, gList, gTuple, gLen, gIsi, isObjD, kindN, isiB, sForL, sForT, sForR, itemsD, rgOk, sPar, cond_true, cond_false, sizeLine_eq, sAppend, mPop]
theorem tst_cons (a x2 : Sl) (k : Int) (q : PP) (t : List PP) : tstC [a, .ow true (L (q :: t)), x2, .sh (.int k)] = some (decide (k ≤ q.2), [a, .ow true (L (q :: t)), x2, .sh (.int k)]) := by
  rw [L_cons]
  have e1 : atI (t.reverse.map tupP ++ [tupP q]) (-1) = some (.tup [.int q.1, .int q.2]) := at_last (t.reverse.map tupP) (tupP q)
  have e2 : atI [D.int q.1, D.int q.2] 1 = some (D.int q.2) := rfl
  have hne : (t.reverse.map tupP ++ [tupP q]).isEmpty = false := by simp
  generalize t.reverse.map tupP ++ [tupP q] = G at e1 hne ⊢
  simp [tstC, e1, e2, hne, mC, mVar, mHs, mV, FL.m2, m2H, FL.m1, m1H, mNil, mCons, mMk, mTb, mTNot, mTAnd, mTOr, mTru, mAnd, mOr, mIf, mChain, sSeq, sNil, sIf, sRet, sDrop, sAsg, gSet, gSets, gUn, lentS_un, lentS_sh, lentS_owt, deref, gI, gB, gNeg, gNot, gTupD, gLstD, szOk, truD, cMod, cDiv, mkFn, mkFnO, endF, FL.cut, FL.cutS, mCall, mCallO, mCallK, sOwn, sRetO, sRetV, gIx, gDGet, keyD, getK, putKD, sDPutD, mDispN, mDicN, gAdd, gMul, gSl, mPn, mPs, mSl, cutA, HT.sIx, gMin2, gMax2, gList, gTuple, gLen, gIsi, isObjD, kindN, isiB, sForL, sForT, sForR, itemsD, rgOk, sPar, cond_true, cond_false, sizeLine_eq, sAppend, mPop]
theorem whC (a x2 : Sl) (k : Int) : ∀ (rev : List PP) (n : Nat), rev.length < n → whileF tstC (sDrop (mPop 1)) n [a, .ow true (L rev), x2, .sh (.int k)] = some (.nx [a, .ow true (L (rev.dropWhile fun q => decide (k ≤ q.2))), x2, .sh (.int k)])
  | [], n + 1, _ => by
    unfold whileF
    rw [tst_nil]
    rfl
  | q :: t, n + 1, h => by
    have ih := whC a x2 k t n (by simpa using h)
    unfold whileF
    rw [tst_cons]
    by_cases c : k ≤ q.2
    · have e1 : decide (k ≤ q.2) = true := decide_eq_true c
      have e2 : sDrop (mPop 1) [a, .ow true (L (q :: t)), x2, .sh (.int k)] = some (.nx [a, .ow true (L t), x2, .sh (.int k)]) := by
        rw [L_cons]
        simp [sDrop, mPop, L]
      rw [List.dropWhile_cons, e1]
      show (match sDrop (mPop 1) [a, .ow true (L (q :: t)), x2, .sh (.int k)] with
        | some (.nx e2) => whileF tstC (sDrop (mPop 1)) n e2
        | some (.ct e2) => whileF tstC (sDrop (mPop 1)) n e2
        | some (.bk e2) => some (.nx e2)
        | some (.rt d e2) => some (.rt d e2)
        | some (.ro d e2) => some (.ro d e2)
        | none => none) = _
      rw [e2]
      exact ih
    · have e1 : decide (k ≤ q.2) = false := decide_eq_false c
      rw [List.dropWhile_cons, e1]
      rfl
noncomputable def bodyC : FS := (sSeq (sWhile 100000 tstC (sDrop (mPop 1)))
  (sIf (mTOr (mTNot (mTru (mHs 1))) (mTb (mLt (mV (m2H gIx (mV (m2H gIx (mHs 1) (mV (m1 gNeg (mC (.int 1)))))) (mV (mC (.int 0))))) (mHs 2)))) (sAppend 1 (mTup (mCons (mVar 2) (mCons (mVar 3) mNil)))) sNil))
theorem turnC (a : Sl) (p : PP) (rev : List PP) (h : rev.length < 1000) : bodyC [a, .ow true (L rev), .sh (.int p.1), .sh (.int p.2)] = some (.nx [a, .ow true (L (pushC rev p)), .sh (.int p.1), .sh (.int p.2)]) := by
  have w := whC a (.sh (.int p.1)) p.2 rev 100000 (by omega)
  have hl : (rev.dropWhile (fun q => decide (p.2 ≤ q.2))).length ≤ rev.length := (List.dropWhile_sublist _).length_le
  unfold pushC
  cases e : rev.dropWhile (fun q => decide (p.2 ≤ q.2)) with
  | nil =>
    rw [e] at w
    have eL : L [] = .lst [] := rfl
    have eP : L [p] = .lst [.tup [.int p.1, .int p.2]] := rfl
    rw [eL] at w
    show _ = some (Out.nx [a, .ow true (L [p]), .sh (.int p.1), .sh (.int p.2)])
    rw [eP]
    generalize L rev = R at w ⊢
    simp [bodyC, sWhile, w, sAppend, mC, mVar, mHs, mV, FL.m2, m2H, FL.m1, m1H, mNil, mCons, mMk, mTb, mTNot, mTAnd, mTOr, mTru, mAnd, mOr, mIf, mChain, sSeq, sNil, sIf, sRet, sDrop, sAsg, gSet, gSets, gUn, lentS_un, lentS_sh, lentS_owt, deref, gI, gB, gNeg, gNot, gTupD, gLstD, szOk, truD, cMod, cDiv, mkFn, mkFnO, endF, FL.cut, FL.cutS, mCall, mCallO, mCallK, sOwn, sRetO, sRetV, gIx, gDGet, keyD, getK, putKD, sDPutD, mDispN, mDicN, gAdd, gMul, gSl, mPn, mPs, mSl, cutA, HT.sIx, gMin2, gMax2, gList, gTuple, gLen, gIsi, isObjD, kindN, isiB, sForL, sForT, sForR, itemsD, rgOk, sPar, cond_true, cond_false, sizeLine_eq, sAppend, mPop]
  | cons q t =>
    rw [e] at w
    have e1 : atI (t.reverse.map tupP ++ [tupP q]) (-1) = some (.tup [.int q.1, .int q.2]) := at_last (t.reverse.map tupP) (tupP q)
    have e2 : atI [D.int q.1, D.int q.2] 0 = some (D.int q.1) := rfl
    have hz : (t.reverse.map tupP ++ [tupP q]).length < 1000000 := by
      rw [e] at hl; simp at hl ⊢; omega
    have hne : (t.reverse.map tupP ++ [tupP q]).isEmpty = false := by simp
    by_cases c : q.1 < p.1
    · have el : L (p :: q :: t) = .lst ((t.reverse.map tupP ++ [tupP q]) ++ [.tup [.int p.1, .int p.2]]) := by simp [L, tupP]
      show _ = some (Out.nx [a, .ow true (L (if q.1 < p.1 then p :: q :: t else q :: t)), .sh (.int p.1), .sh (.int p.2)])
      rw [if_pos c, el]
      rw [L_cons] at w
      generalize L rev = R at w ⊢
      generalize t.reverse.map tupP ++ [tupP q] = G at w e1 hz hne ⊢
      simp [bodyC, sWhile, w, sAppend, e1, e2, c, hne, hz, mC, mVar, mHs, mV, FL.m2, m2H, FL.m1, m1H, mNil, mCons, mMk, mTb, mTNot, mTAnd, mTOr, mTru, mAnd, mOr, mIf, mChain, sSeq, sNil, sIf, sRet, sDrop, sAsg, gSet, gSets, gUn, lentS_un, lentS_sh, lentS_owt, deref, gI, gB, gNeg, gNot, gTupD, gLstD, szOk, truD, cMod, cDiv, mkFn, mkFnO, endF, FL.cut, FL.cutS, mCall, mCallO, mCallK, sOwn, sRetO, sRetV, gIx, gDGet, keyD, getK, putKD, sDPutD, mDispN, mDicN, gAdd, gMul, gSl, mPn, mPs, mSl, cutA, HT.sIx, gMin2, gMax2, gList, gTuple, gLen, gIsi, isObjD, kindN, isiB, sForL, sForT, sForR, itemsD, rgOk, sPar, cond_true, cond_false, sizeLine_eq, sAppend, mPop]
    · show _ = some (Out.nx [a, .ow true (L (if q.1 < p.1 then p :: q :: t else q :: t)), .sh (.int p.1), .sh (.int p.2)])
      rw [if_neg c, L_cons]
      rw [L_cons] at w
      generalize L rev = R at w ⊢
      generalize t.reverse.map tupP ++ [tupP q] = G at w e1 hz hne ⊢
      simp [bodyC, sWhile, w, sAppend, e1, e2, c, hne, hz, mC, mVar, mHs, mV, FL.m2, m2H, FL.m1, m1H, mNil, mCons, mMk, mTb, mTNot, mTAnd, mTOr, mTru, mAnd, mOr, mIf, mChain, sSeq, sNil, sIf, sRet, sDrop, sAsg, gSet, gSets, gUn, lentS_un, lentS_sh, lentS_owt, deref, gI, gB, gNeg, gNot, gTupD, gLstD, szOk, truD, cMod, cDiv, mkFn, mkFnO, endF, FL.cut, FL.cutS, mCall, mCallO, mCallK, sOwn, sRetO, sRetV, gIx, gDGet, keyD, getK, putKD, sDPutD, mDispN, mDicN, gAdd, gMul, gSl, mPn, mPs, mSl, cutA, HT.sIx, gMin2, gMax2, gList, gTuple, gLen, gIsi, isObjD, kindN, isiB, sForL, sForT, sForR, itemsD, rgOk, sPar, cond_true, cond_false, sizeLine_eq, sAppend, mPop]
end PL

namespace PL
open PySem PySem.Spec PyProof.Rows L2 FL
set_option maxRecDepth 100000
set_option maxHeartbeats 8000000
set_option linter.all false
def bt (d : D) (a b : Int) : Bool := match d with
  | .int i => decide (a ≤ i) && decide (i ≤ b)
  | _ => false
theorem bt_int {d : D} {a b : Int} (h : bt d a b = true) : ∃ i, d = .int i ∧ a ≤ i ∧ i ≤ b := by
  unfold bt at h
  split at h
  · simp at h; exact ⟨_, rfl, h.1, h.2⟩
  · cases h
def pl (d : D) : Prop := match d with
  | .obj _ _ => False
  | .scr _ => False
  | .kls _ => False
  | _ => True
def pl2 (d : D) : Prop := match d with
  | .obj _ _ => False
  | .scr _ => False
  | .kls _ => False
  | .tup xs => ∀ x ∈ xs, pl x
  | _ => True
theorem f_is_whole (d : D) (h : pl d) : F_is_whole [.sh d] = some (.bl (match d with | .int _ => true | _ => false), [.un]) := by
  cases d with
  | obj _ _ => exact h.elim
  | scr _ => exact h.elim
  | kls _ => exact h.elim
  | _ => simp [F_is_whole, B_is_whole, mC, mVar, mHs, mV, FL.m2, m2H, FL.m1, m1H, mNil, mCons, mMk, mTb, mTNot, mTAnd, mTOr, mTru, mAnd, mOr, mIf, mChain, sSeq, sNil, sIf, sRet, sDrop, sAsg, gSet, gSets, gUn, lentS_un, lentS_sh, lentS_owt, deref, gI, gB, gNeg, gNot, gTupD, gLstD, szOk, truD, cMod, cDiv, mkFn, mkFnO, endF, FL.cut, FL.cutS, mCall, mCallO, mCallK, sOwn, sRetO, sRetV, gIx, gDGet, keyD, getK, putKD, sDPutD, mDispN, mDicN, gAdd, gMul, gSl, mPn, mPs, mSl, cutA, HT.sIx, gMin2, gMax2, gList, gTuple, gLen, gIsi, isObjD, kindN, isiB, sForL, sForT, sForR, itemsD, rgOk, sPar, cond_true, cond_false, sizeLine_eq, sAppend, mPop]
theorem f_is_day (d : D) (h : pl d) : F_is_day [.sh d] = some (.bl (bt d 0 1000000), [.un]) := by
  cases d with
  | obj _ _ => exact h.elim
  | scr _ => exact h.elim
  | kls _ => exact h.elim
  | int i => by_cases h1 : 0 ≤ i <;> by_cases h2 : i ≤ 1000000 <;> simp [F_is_day, B_is_day, f_is_whole, h, bt, h1, h2, mC, mVar, mHs, mV, FL.m2, m2H, FL.m1, m1H, mNil, mCons, mMk, mTb, mTNot, mTAnd, mTOr, mTru, mAnd, mOr, mIf, mChain, sSeq, sNil, sIf, sRet, sDrop, sAsg, gSet, gSets, gUn, lentS_un, lentS_sh, lentS_owt, deref, gI, gB, gNeg, gNot, gTupD, gLstD, szOk, truD, cMod, cDiv, mkFn, mkFnO, endF, FL.cut, FL.cutS, mCall, mCallO, mCallK, sOwn, sRetO, sRetV, gIx, gDGet, keyD, getK, putKD, sDPutD, mDispN, mDicN, gAdd, gMul, gSl, mPn, mPs, mSl, cutA, HT.sIx, gMin2, gMax2, gList, gTuple, gLen, gIsi, isObjD, kindN, isiB, sForL, sForT, sForR, itemsD, rgOk, sPar, cond_true, cond_false, sizeLine_eq, sAppend, mPop]
  | _ => simp [F_is_day, B_is_day, f_is_whole, h, bt, mC, mVar, mHs, mV, FL.m2, m2H, FL.m1, m1H, mNil, mCons, mMk, mTb, mTNot, mTAnd, mTOr, mTru, mAnd, mOr, mIf, mChain, sSeq, sNil, sIf, sRet, sDrop, sAsg, gSet, gSets, gUn, lentS_un, lentS_sh, lentS_owt, deref, gI, gB, gNeg, gNot, gTupD, gLstD, szOk, truD, cMod, cDiv, mkFn, mkFnO, endF, FL.cut, FL.cutS, mCall, mCallO, mCallK, sOwn, sRetO, sRetV, gIx, gDGet, keyD, getK, putKD, sDPutD, mDispN, mDicN, gAdd, gMul, gSl, mPn, mPs, mSl, cutA, HT.sIx, gMin2, gMax2, gList, gTuple, gLen, gIsi, isObjD, kindN, isiB, sForL, sForT, sForR, itemsD, rgOk, sPar, cond_true, cond_false, sizeLine_eq, sAppend, mPop]
def leI (x y : D) : Bool := match x, y with
  | .int i, .int j => decide (i ≤ j)
  | _, _ => false
def pr (d : D) : Bool := match d with
  | .tup [x, y] => bt x 0 1000000 && bt y 0 1000000 && leI x y
  | _ => false
theorem f_is_pair (d : D) (h : pl2 d) : F_is_pair [.sh d] = some (.bl (pr d), [.un]) := by
  cases d with
  | obj _ _ => exact h.elim
  | scr _ => exact h.elim
  | kls _ => exact h.elim
  | tup xs =>
    match xs, h with
    | [], _ => simp [F_is_pair, B_is_pair, pr, eqI, mC, mVar, mHs, mV, FL.m2, m2H, FL.m1, m1H, mNil, mCons, mMk, mTb, mTNot, mTAnd, mTOr, mTru, mAnd, mOr, mIf, mChain, sSeq, sNil, sIf, sRet, sDrop, sAsg, gSet, gSets, gUn, lentS_un, lentS_sh, lentS_owt, deref, gI, gB, gNeg, gNot, gTupD, gLstD, szOk, truD, cMod, cDiv, mkFn, mkFnO, endF, FL.cut, FL.cutS, mCall, mCallO, mCallK, sOwn, sRetO, sRetV, gIx, gDGet, keyD, getK, putKD, sDPutD, mDispN, mDicN, gAdd, gMul, gSl, mPn, mPs, mSl, cutA, HT.sIx, gMin2, gMax2, gList, gTuple, gLen, gIsi, isObjD, kindN, isiB, sForL, sForT, sForR, itemsD, rgOk, sPar, cond_true, cond_false, sizeLine_eq, sAppend, mPop]
    | [x], _ => simp [F_is_pair, B_is_pair, pr, eqI, mC, mVar, mHs, mV, FL.m2, m2H, FL.m1, m1H, mNil, mCons, mMk, mTb, mTNot, mTAnd, mTOr, mTru, mAnd, mOr, mIf, mChain, sSeq, sNil, sIf, sRet, sDrop, sAsg, gSet, gSets, gUn, lentS_un, lentS_sh, lentS_owt, deref, gI, gB, gNeg, gNot, gTupD, gLstD, szOk, truD, cMod, cDiv, mkFn, mkFnO, endF, FL.cut, FL.cutS, mCall, mCallO, mCallK, sOwn, sRetO, sRetV, gIx, gDGet, keyD, getK, putKD, sDPutD, mDispN, mDicN, gAdd, gMul, gSl, mPn, mPs, mSl, cutA, HT.sIx, gMin2, gMax2, gList, gTuple, gLen, gIsi, isObjD, kindN, isiB, sForL, sForT, sForR, itemsD, rgOk, sPar, cond_true, cond_false, sizeLine_eq, sAppend, mPop]
    | [x, y], h =>
      have hx : pl x := h x List.mem_cons_self
      have hy : pl y := h y (List.mem_cons_of_mem _ List.mem_cons_self)
      cases q1 : bt x 0 1000000 with
      | false => simp [F_is_pair, B_is_pair, pr, eqI, f_is_day, hx, hy, q1, mC, mVar, mHs, mV, FL.m2, m2H, FL.m1, m1H, mNil, mCons, mMk, mTb, mTNot, mTAnd, mTOr, mTru, mAnd, mOr, mIf, mChain, sSeq, sNil, sIf, sRet, sDrop, sAsg, gSet, gSets, gUn, lentS_un, lentS_sh, lentS_owt, deref, gI, gB, gNeg, gNot, gTupD, gLstD, szOk, truD, cMod, cDiv, mkFn, mkFnO, endF, FL.cut, FL.cutS, mCall, mCallO, mCallK, sOwn, sRetO, sRetV, gIx, gDGet, keyD, getK, putKD, sDPutD, mDispN, mDicN, gAdd, gMul, gSl, mPn, mPs, mSl, cutA, HT.sIx, gMin2, gMax2, gList, gTuple, gLen, gIsi, isObjD, kindN, isiB, sForL, sForT, sForR, itemsD, rgOk, sPar, cond_true, cond_false, sizeLine_eq, sAppend, mPop]
      | true =>
        cases q2 : bt y 0 1000000 with
        | false => simp [F_is_pair, B_is_pair, pr, eqI, f_is_day, hx, hy, q1, q2, mC, mVar, mHs, mV, FL.m2, m2H, FL.m1, m1H, mNil, mCons, mMk, mTb, mTNot, mTAnd, mTOr, mTru, mAnd, mOr, mIf, mChain, sSeq, sNil, sIf, sRet, sDrop, sAsg, gSet, gSets, gUn, lentS_un, lentS_sh, lentS_owt, deref, gI, gB, gNeg, gNot, gTupD, gLstD, szOk, truD, cMod, cDiv, mkFn, mkFnO, endF, FL.cut, FL.cutS, mCall, mCallO, mCallK, sOwn, sRetO, sRetV, gIx, gDGet, keyD, getK, putKD, sDPutD, mDispN, mDicN, gAdd, gMul, gSl, mPn, mPs, mSl, cutA, HT.sIx, gMin2, gMax2, gList, gTuple, gLen, gIsi, isObjD, kindN, isiB, sForL, sForT, sForR, itemsD, rgOk, sPar, cond_true, cond_false, sizeLine_eq, sAppend, mPop]
        | true =>
          obtain ⟨i, rfl, _⟩ := bt_int q1
          obtain ⟨j, rfl, _⟩ := bt_int q2
          simp [F_is_pair, B_is_pair, pr, eqI, f_is_day, hx, hy, q1, q2, leI, mC, mVar, mHs, mV, FL.m2, m2H, FL.m1, m1H, mNil, mCons, mMk, mTb, mTNot, mTAnd, mTOr, mTru, mAnd, mOr, mIf, mChain, sSeq, sNil, sIf, sRet, sDrop, sAsg, gSet, gSets, gUn, lentS_un, lentS_sh, lentS_owt, deref, gI, gB, gNeg, gNot, gTupD, gLstD, szOk, truD, cMod, cDiv, mkFn, mkFnO, endF, FL.cut, FL.cutS, mCall, mCallO, mCallK, sOwn, sRetO, sRetV, gIx, gDGet, keyD, getK, putKD, sDPutD, mDispN, mDicN, gAdd, gMul, gSl, mPn, mPs, mSl, cutA, HT.sIx, gMin2, gMax2, gList, gTuple, gLen, gIsi, isObjD, kindN, isiB, sForL, sForT, sForR, itemsD, rgOk, sPar, cond_true, cond_false, sizeLine_eq, sAppend, mPop]
    | x :: y :: z :: r, h =>
      have e : ¬ ((r.length : Int) + 1 + 1 + 1 = 2) := by omega
      simp [F_is_pair, B_is_pair, pr, eqI, e, mC, mVar, mHs, mV, FL.m2, m2H, FL.m1, m1H, mNil, mCons, mMk, mTb, mTNot, mTAnd, mTOr, mTru, mAnd, mOr, mIf, mChain, sSeq, sNil, sIf, sRet, sDrop, sAsg, gSet, gSets, gUn, lentS_un, lentS_sh, lentS_owt, deref, gI, gB, gNeg, gNot, gTupD, gLstD, szOk, truD, cMod, cDiv, mkFn, mkFnO, endF, FL.cut, FL.cutS, mCall, mCallO, mCallK, sOwn, sRetO, sRetV, gIx, gDGet, keyD, getK, putKD, sDPutD, mDispN, mDicN, gAdd, gMul, gSl, mPn, mPs, mSl, cutA, HT.sIx, gMin2, gMax2, gList, gTuple, gLen, gIsi, isObjD, kindN, isiB, sForL, sForT, sForR, itemsD, rgOk, sPar, cond_true, cond_false, sizeLine_eq, sAppend, mPop]
  | _ => simp [F_is_pair, B_is_pair, pr, mC, mVar, mHs, mV, FL.m2, m2H, FL.m1, m1H, mNil, mCons, mMk, mTb, mTNot, mTAnd, mTOr, mTru, mAnd, mOr, mIf, mChain, sSeq, sNil, sIf, sRet, sDrop, sAsg, gSet, gSets, gUn, lentS_un, lentS_sh, lentS_owt, deref, gI, gB, gNeg, gNot, gTupD, gLstD, szOk, truD, cMod, cDiv, mkFn, mkFnO, endF, FL.cut, FL.cutS, mCall, mCallO, mCallK, sOwn, sRetO, sRetV, gIx, gDGet, keyD, getK, putKD, sDPutD, mDispN, mDicN, gAdd, gMul, gSl, mPn, mPs, mSl, cutA, HT.sIx, gMin2, gMax2, gList, gTuple, gLen, gIsi, isObjD, kindN, isiB, sForL, sForT, sForR, itemsD, rgOk, sPar, cond_true, cond_false, sizeLine_eq, sAppend, mPop]
theorem pl_tup (p : PP) : pl2 (tupP p) := fun x hx => by
  simp at hx
  rcases hx with rfl | rfl <;> trivial
theorem pr_tup {p : PP} (h : Pr p) : pr (tupP p) = true := by
  obtain ⟨a, b, c⟩ := h
  simp [pr, tupP, bt, leI]
  omega
theorem is_pair_tup {p : PP} (h : Pr p) : F_is_pair [.sh (tupP p)] = some (.bl true, [.un]) := by
  rw [f_is_pair _ (pl_tup p), pr_tup h]
/-! ### the corners -/
theorem pairs_of : ∀ ps : List PP, pairsD (ps.map tupP) = some ps
  | [] => rfl
  | p :: ps => by
    show pairsD (tupP p :: ps.map tupP) = _
    unfold pairsD
    rw [show pairD (tupP p) = some p from rfl, pairs_of ps]
theorem loopC (a : Sl) : ∀ (l rev : List PP) (x2 x3 : Sl), lentS x2 = false → lentS x3 = false → rev.length + l.length < 900 → ∃ y2 y3, loopF (gUn [gSet 2, gSet 3]) bodyC (l.map tupP) [a, .ow true (L rev), x2, x3] = some (.nx [a, .ow true (L (l.foldl pushC rev)), y2, y3])
  | [], rev, x2, x3, _, _, _ => ⟨x2, x3, rfl⟩
  | p :: l, rev, x2, x3, h2, h3, hl => by
    simp only [List.length_cons] at hl
    have z := push_len rev p
    obtain ⟨y2, y3, ih⟩ := loopC a l (pushC rev p) (.sh (.int p.1)) (.sh (.int p.2)) rfl rfl (by omega)
    refine ⟨y2, y3, ?_⟩
    have e1 : gUn [gSet 2, gSet 3] (tupP p) [a, .ow true (L rev), x2, x3] = some [a, .ow true (L rev), .sh (.int p.1), .sh (.int p.2)] := by simp [gUn, gSets, gSet, tupP, h2, h3]
    have e2 := turnC a p rev (by omega)
    rw [List.map_cons]
    unfold loopF
    rw [e1]
    show (match bodyC [a, .ow true (L rev), .sh (.int p.1), .sh (.int p.2)] with
      | some (.nx e2) => loopF (gUn [gSet 2, gSet 3]) bodyC (l.map tupP) e2
      | some (.ct e2) => loopF (gUn [gSet 2, gSet 3]) bodyC (l.map tupP) e2
      | some (.bk e2) => some (.nx e2)
      | some (.rt d e2) => some (.rt d e2)
      | some (.ro d e2) => some (.ro d e2)
      | none => none) = _
    rw [e2]
    exact ih
theorem corners (ps : List PP) (h : ps.length < 900) : F__corners_among [.sh (.tup (ps.map tupP))] = some (L (cornR ps), [.un]) := by
  have eb : B__corners_among = (sSeq (sOwn 1 (mMk gLstD mNil)) (sSeq (sForL (mMk gSortP (mCons (mVar 0) mNil)) (gUn [(gSet 2), (gSet 3)]) bodyC) (sRet (mVar 1)))) := rfl
  obtain ⟨y2, y3, q⟩ := loopC (.sh (.tup (ps.map tupP))) (sortP ps) [] .un .un rfl rfl (by rw [(sortP_perm ps).length_eq]; simpa using h)
  have e := pairs_of ps
  have q' : loopF (gUn [gSet 2, gSet 3]) bodyC ((sortP ps).map tupP) [.sh (.tup (ps.map tupP)), .ow true (.lst []), .un, .un] = some (.nx [.sh (.tup (ps.map tupP)), .ow true (L (cornR ps)), y2, y3]) := q
  generalize ps.map tupP = G at e q' ⊢
  unfold F__corners_among
  rw [eb]
  generalize L (cornR ps) = R at q' ⊢
  generalize hS : (sortP ps).map tupP = S at q'
  have eg : gSortP [.tup G] = some (.lst S) := by simp only [gSortP, e, hS]
  simp [eg, q', mC, mVar, mHs, mV, FL.m2, m2H, FL.m1, m1H, mNil, mCons, mMk, mTb, mTNot, mTAnd, mTOr, mTru, mAnd, mOr, mIf, mChain, sSeq, sNil, sIf, sRet, sDrop, sAsg, gSet, gSets, gUn, lentS_un, lentS_sh, lentS_owt, deref, gI, gB, gNeg, gNot, gTupD, gLstD, szOk, truD, cMod, cDiv, mkFn, mkFnO, endF, FL.cut, FL.cutS, mCall, mCallO, mCallK, sOwn, sRetO, sRetV, gIx, gDGet, keyD, getK, putKD, sDPutD, mDispN, mDicN, gAdd, gMul, gSl, mPn, mPs, mSl, cutA, HT.sIx, gMin2, gMax2, gList, gTuple, gLen, gIsi, isObjD, kindN, isiB, sForL, sForT, sForR, itemsD, rgOk, sPar, cond_true, cond_false, sizeLine_eq, sAppend, mPop]
end PL

namespace PL
open PySem PySem.Spec PyProof.Rows L2 FL
set_option maxRecDepth 100000
set_option maxHeartbeats 8000000
set_option linter.all false
noncomputable def bI : FS := (sIf (mTNot (mTb (mCall F_is_pair (mCons (mVar 2) mNil)))) sBad sNil)
theorem loopI (s0 s1 : Sl) : ∀ (l : List PP) (x2 : Sl), lentS x2 = false → (∀ p ∈ l, Pr p) → ∃ y, loopF (gSet 2) bI (l.map tupP) [s0, s1, x2] = some (.nx [s0, s1, y])
  | [], x2, _, _ => ⟨x2, rfl⟩
  | p :: l, x2, h, hp => by
    obtain ⟨y, ih⟩ := loopI s0 s1 l (.sh (tupP p)) rfl fun q hq => hp q (List.mem_cons_of_mem _ hq)
    refine ⟨y, ?_⟩
    have e1 : gSet 2 (tupP p) [s0, s1, x2] = some [s0, s1, .sh (tupP p)] := by simp [gSet, h]
    have hq := is_pair_tup (hp p List.mem_cons_self)
    have e2 : bI [s0, s1, .sh (tupP p)] = some (.nx [s0, s1, .sh (tupP p)]) := by simp [bI, hq, mC, mVar, mHs, mV, FL.m2, m2H, FL.m1, m1H, mNil, mCons, mMk, mTb, mTNot, mTAnd, mTOr, mTru, mAnd, mOr, mIf, mChain, sSeq, sNil, sIf, sRet, sDrop, sAsg, gSet, gSets, gUn, lentS_un, lentS_sh, lentS_owt, deref, gI, gB, gNeg, gNot, gTupD, gLstD, szOk, truD, cMod, cDiv, mkFn, mkFnO, endF, FL.cut, FL.cutS, mCall, mCallO, mCallK, sOwn, sRetO, sRetV, gIx, gDGet, keyD, getK, putKD, sDPutD, mDispN, mDicN, gAdd, gMul, gSl, mPn, mPs, mSl, cutA, HT.sIx, gMin2, gMax2, gList, gTuple, gLen, gIsi, isObjD, kindN, isiB, sForL, sForT, sForR, itemsD, rgOk, sPar, cond_true, cond_false, sizeLine_eq, sAppend, mPop]
    rw [List.map_cons]
    unfold loopF
    rw [e1]
    show (match bI [s0, s1, .sh (tupP p)] with
      | some (.nx e2) => loopF (gSet 2) bI (l.map tupP) e2
      | some (.ct e2) => loopF (gSet 2) bI (l.map tupP) e2
      | some (.bk e2) => some (.nx e2)
      | some (.rt d e2) => some (.rt d e2)
      | some (.ro d e2) => some (.ro d e2)
      | none => none) = _
    rw [e2]
    exact ih
def St (ps : List PP) : D := .obj "Stairs" [("_corners", L (cornR ps))]
theorem init (ps : List PP) (h : ps.length < 900) (hp : ∀ p ∈ ps, Pr p) : F_Stairs____init__ [.ow false (.obj "Stairs" []), .sh (.tup (ps.map tupP))] = some (.non, [.ow false (St ps), .un]) := by
  have eb : B_Stairs____init__ = (sSeq (sForT (mVar 1) (gSet 2) bI) (sFldD 0 "Stairs" "_corners" (mCall F__corners_among (mCons (mVar 1) mNil)))) := rfl
  obtain ⟨y, q⟩ := loopI (.ow false (.obj "Stairs" [])) (.sh (.tup (ps.map tupP))) ps .un rfl hp
  have c := corners ps h
  unfold St
  generalize L (cornR ps) = R at c ⊢
  generalize ps.map tupP = G at q c ⊢
  unfold F_Stairs____init__
  rw [eb]
  have e3 : sFldD 0 "Stairs" "_corners" (mCall F__corners_among (mCons (mVar 1) mNil)) [.ow false (.obj "Stairs" []), .sh (.tup G), y] = some (.nx [.ow false (.obj "Stairs" [("_corners", R)]), .sh (.tup G), y]) := by
    unfold sFldD
    simp [c, putFD, mC, mVar, mHs, mV, FL.m2, m2H, FL.m1, m1H, mNil, mCons, mMk, mTb, mTNot, mTAnd, mTOr, mTru, mAnd, mOr, mIf, mChain, sSeq, sNil, sIf, sRet, sDrop, sAsg, gSet, gSets, gUn, lentS_un, lentS_sh, lentS_owt, deref, gI, gB, gNeg, gNot, gTupD, gLstD, szOk, truD, cMod, cDiv, mkFn, mkFnO, endF, FL.cut, FL.cutS, mCall, mCallO, mCallK, sOwn, sRetO, sRetV, gIx, gDGet, keyD, getK, putKD, sDPutD, mDispN, mDicN, gAdd, gMul, gSl, mPn, mPs, mSl, cutA, HT.sIx, gMin2, gMax2, gList, gTuple, gLen, gIsi, isObjD, kindN, isiB, sForL, sForT, sForR, itemsD, rgOk, sPar, cond_true, cond_false, sizeLine_eq, sAppend, mPop]
  generalize sFldD 0 "Stairs" "_corners" (mCall F__corners_among (mCons (mVar 1) mNil)) = W at e3 ⊢
  simp [q, e3, sForT, mC, mVar, mHs, mV, FL.m2, m2H, FL.m1, m1H, mNil, mCons, mMk, mTb, mTNot, mTAnd, mTOr, mTru, mAnd, mOr, mIf, mChain, sSeq, sNil, sIf, sRet, sDrop, sAsg, gSet, gSets, gUn, lentS_un, lentS_sh, lentS_owt, deref, gI, gB, gNeg, gNot, gTupD, gLstD, szOk, truD, cMod, cDiv, mkFn, mkFnO, endF, FL.cut, FL.cutS, mCall, mCallO, mCallK, sOwn, sRetO, sRetV, gIx, gDGet, keyD, getK, putKD, sDPutD, mDispN, mDicN, gAdd, gMul, gSl, mPn, mPs, mSl, cutA, HT.sIx, gMin2, gMax2, gList, gTuple, gLen, gIsi, isObjD, kindN, isiB, sForL, sForT, sForR, itemsD, rgOk, sPar, cond_true, cond_false, sizeLine_eq, sAppend, mPop]
theorem made (ps : List PP) (h : ps.length ≤ 5) (hp : ∀ p ∈ ps, Pr p) : F__law_made [.sh (.lst (ps.map tupP))] = some (St ps, [.un]) := by
  have q := init ps (by omega) hp
  match ps, h with
  | [], _ =>
    simp only [List.map_cons, List.map_nil] at q ⊢
    generalize St [] = R at q ⊢
    simp [F__law_made, B__law_made, mMakeS, cLen, q, eqI, mC, mVar, mHs, mV, FL.m2, m2H, FL.m1, m1H, mNil, mCons, mMk, mTb, mTNot, mTAnd, mTOr, mTru, mAnd, mOr, mIf, mChain, sSeq, sNil, sIf, sRet, sDrop, sAsg, gSet, gSets, gUn, lentS_un, lentS_sh, lentS_owt, deref, gI, gB, gNeg, gNot, gTupD, gLstD, szOk, truD, cMod, cDiv, mkFn, mkFnO, endF, FL.cut, FL.cutS, mCall, mCallO, mCallK, sOwn, sRetO, sRetV, gIx, gDGet, keyD, getK, putKD, sDPutD, mDispN, mDicN, gAdd, gMul, gSl, mPn, mPs, mSl, cutA, HT.sIx, gMin2, gMax2, gList, gTuple, gLen, gIsi, isObjD, kindN, isiB, sForL, sForT, sForR, itemsD, rgOk, sPar, cond_true, cond_false, sizeLine_eq, sAppend, mPop, atI, ixN]
  | [a], _ =>
    simp only [List.map_cons, List.map_nil] at q ⊢
    generalize St [a] = R at q ⊢
    simp [F__law_made, B__law_made, mMakeS, cLen, q, eqI, mC, mVar, mHs, mV, FL.m2, m2H, FL.m1, m1H, mNil, mCons, mMk, mTb, mTNot, mTAnd, mTOr, mTru, mAnd, mOr, mIf, mChain, sSeq, sNil, sIf, sRet, sDrop, sAsg, gSet, gSets, gUn, lentS_un, lentS_sh, lentS_owt, deref, gI, gB, gNeg, gNot, gTupD, gLstD, szOk, truD, cMod, cDiv, mkFn, mkFnO, endF, FL.cut, FL.cutS, mCall, mCallO, mCallK, sOwn, sRetO, sRetV, gIx, gDGet, keyD, getK, putKD, sDPutD, mDispN, mDicN, gAdd, gMul, gSl, mPn, mPs, mSl, cutA, HT.sIx, gMin2, gMax2, gList, gTuple, gLen, gIsi, isObjD, kindN, isiB, sForL, sForT, sForR, itemsD, rgOk, sPar, cond_true, cond_false, sizeLine_eq, sAppend, mPop, atI, ixN]
  | [a, b], _ =>
    simp only [List.map_cons, List.map_nil] at q ⊢
    generalize St [a, b] = R at q ⊢
    simp [F__law_made, B__law_made, mMakeS, cLen, q, eqI, mC, mVar, mHs, mV, FL.m2, m2H, FL.m1, m1H, mNil, mCons, mMk, mTb, mTNot, mTAnd, mTOr, mTru, mAnd, mOr, mIf, mChain, sSeq, sNil, sIf, sRet, sDrop, sAsg, gSet, gSets, gUn, lentS_un, lentS_sh, lentS_owt, deref, gI, gB, gNeg, gNot, gTupD, gLstD, szOk, truD, cMod, cDiv, mkFn, mkFnO, endF, FL.cut, FL.cutS, mCall, mCallO, mCallK, sOwn, sRetO, sRetV, gIx, gDGet, keyD, getK, putKD, sDPutD, mDispN, mDicN, gAdd, gMul, gSl, mPn, mPs, mSl, cutA, HT.sIx, gMin2, gMax2, gList, gTuple, gLen, gIsi, isObjD, kindN, isiB, sForL, sForT, sForR, itemsD, rgOk, sPar, cond_true, cond_false, sizeLine_eq, sAppend, mPop, atI, ixN]
  | [a, b, c], _ =>
    simp only [List.map_cons, List.map_nil] at q ⊢
    generalize St [a, b, c] = R at q ⊢
    simp [F__law_made, B__law_made, mMakeS, cLen, q, eqI, mC, mVar, mHs, mV, FL.m2, m2H, FL.m1, m1H, mNil, mCons, mMk, mTb, mTNot, mTAnd, mTOr, mTru, mAnd, mOr, mIf, mChain, sSeq, sNil, sIf, sRet, sDrop, sAsg, gSet, gSets, gUn, lentS_un, lentS_sh, lentS_owt, deref, gI, gB, gNeg, gNot, gTupD, gLstD, szOk, truD, cMod, cDiv, mkFn, mkFnO, endF, FL.cut, FL.cutS, mCall, mCallO, mCallK, sOwn, sRetO, sRetV, gIx, gDGet, keyD, getK, putKD, sDPutD, mDispN, mDicN, gAdd, gMul, gSl, mPn, mPs, mSl, cutA, HT.sIx, gMin2, gMax2, gList, gTuple, gLen, gIsi, isObjD, kindN, isiB, sForL, sForT, sForR, itemsD, rgOk, sPar, cond_true, cond_false, sizeLine_eq, sAppend, mPop, atI, ixN]
  | [a, b, c, d], _ =>
    simp only [List.map_cons, List.map_nil] at q ⊢
    generalize St [a, b, c, d] = R at q ⊢
    simp [F__law_made, B__law_made, mMakeS, cLen, q, eqI, mC, mVar, mHs, mV, FL.m2, m2H, FL.m1, m1H, mNil, mCons, mMk, mTb, mTNot, mTAnd, mTOr, mTru, mAnd, mOr, mIf, mChain, sSeq, sNil, sIf, sRet, sDrop, sAsg, gSet, gSets, gUn, lentS_un, lentS_sh, lentS_owt, deref, gI, gB, gNeg, gNot, gTupD, gLstD, szOk, truD, cMod, cDiv, mkFn, mkFnO, endF, FL.cut, FL.cutS, mCall, mCallO, mCallK, sOwn, sRetO, sRetV, gIx, gDGet, keyD, getK, putKD, sDPutD, mDispN, mDicN, gAdd, gMul, gSl, mPn, mPs, mSl, cutA, HT.sIx, gMin2, gMax2, gList, gTuple, gLen, gIsi, isObjD, kindN, isiB, sForL, sForT, sForR, itemsD, rgOk, sPar, cond_true, cond_false, sizeLine_eq, sAppend, mPop, atI, ixN]
  | [a, b, c, d, e], _ =>
    simp only [List.map_cons, List.map_nil] at q ⊢
    generalize St [a, b, c, d, e] = R at q ⊢
    simp [F__law_made, B__law_made, mMakeS, cLen, q, eqI, mC, mVar, mHs, mV, FL.m2, m2H, FL.m1, m1H, mNil, mCons, mMk, mTb, mTNot, mTAnd, mTOr, mTru, mAnd, mOr, mIf, mChain, sSeq, sNil, sIf, sRet, sDrop, sAsg, gSet, gSets, gUn, lentS_un, lentS_sh, lentS_owt, deref, gI, gB, gNeg, gNot, gTupD, gLstD, szOk, truD, cMod, cDiv, mkFn, mkFnO, endF, FL.cut, FL.cutS, mCall, mCallO, mCallK, sOwn, sRetO, sRetV, gIx, gDGet, keyD, getK, putKD, sDPutD, mDispN, mDicN, gAdd, gMul, gSl, mPn, mPs, mSl, cutA, HT.sIx, gMin2, gMax2, gList, gTuple, gLen, gIsi, isObjD, kindN, isiB, sForL, sForT, sForR, itemsD, rgOk, sPar, cond_true, cond_false, sizeLine_eq, sAppend, mPop, atI, ixN]
/-! ### in -/
noncomputable def bK : FS := (sIf (mTb (mLe (mV (m2H gIx (mHs 1) (mV (mC (.int 0))))) (mHs 2))) (sRet (mGe (mV (m2H gIx (mHs 1) (mV (mC (.int 1))))) (mHs 3))) sNil)
theorem loopK (s0 : Sl) (v : PP) : ∀ (l : List PP) (x2 x3 : Sl), lentS x2 = false → lentS x3 = false → (∃ y2 y3, loopF (gUn [gSet 2, gSet 3]) bK (l.map tupP) [s0, .sh (tupP v), x2, x3] = some (.rt (.bl (contF l v)) [s0, .sh (tupP v), y2, y3])) ∨
    (∃ y2 y3, loopF (gUn [gSet 2, gSet 3]) bK (l.map tupP) [s0, .sh (tupP v), x2, x3] = some (.nx [s0, .sh (tupP v), y2, y3]) ∧ contF l v = false)
  | [], x2, x3, _, _ => .inr ⟨x2, x3, rfl, rfl⟩
  | p :: l, x2, x3, h2, h3 => by
    have e1 : gUn [gSet 2, gSet 3] (tupP p) [s0, .sh (tupP v), x2, x3] = some [s0, .sh (tupP v), .sh (.int p.1), .sh (.int p.2)] := by simp [gUn, gSets, gSet, tupP, h2, h3]
    have i0 : atI [D.int v.1, D.int v.2] 0 = some (D.int v.1) := rfl
    have i1 : atI [D.int v.1, D.int v.2] 1 = some (D.int v.2) := rfl
    have ih := loopK s0 v l (.sh (.int p.1)) (.sh (.int p.2)) rfl rfl
    have un : loopF (gUn [gSet 2, gSet 3]) bK ((p :: l).map tupP) [s0, .sh (tupP v), x2, x3] = (match bK [s0, .sh (tupP v), .sh (.int p.1), .sh (.int p.2)] with
      | some (.nx e2) => loopF (gUn [gSet 2, gSet 3]) bK (l.map tupP) e2
      | some (.ct e2) => loopF (gUn [gSet 2, gSet 3]) bK (l.map tupP) e2
      | some (.bk e2) => some (.nx e2)
      | some (.rt d e2) => some (.rt d e2)
      | some (.ro d e2) => some (.ro d e2)
      | none => none) := by
      rw [List.map_cons]
      show loopF (gUn [gSet 2, gSet 3]) bK (tupP p :: l.map tupP) _ = _
      conv => lhs; unfold loopF
      first | (rw [e1]; done) | (rw [e1]; rfl)
    rw [un]
    unfold contF
    by_cases c : v.1 ≤ p.1
    · have e2 : bK [s0, .sh (tupP v), .sh (.int p.1), .sh (.int p.2)] = some (.rt (.bl (decide (p.2 ≤ v.2))) [s0, .sh (tupP v), .sh (.int p.1), .sh (.int p.2)]) := by
        simp [bK, tupP, i0, i1, c, mC, mVar, mHs, mV, FL.m2, m2H, FL.m1, m1H, mNil, mCons, mMk, mTb, mTNot, mTAnd, mTOr, mTru, mAnd, mOr, mIf, mChain, sSeq, sNil, sIf, sRet, sDrop, sAsg, gSet, gSets, gUn, lentS_un, lentS_sh, lentS_owt, deref, gI, gB, gNeg, gNot, gTupD, gLstD, szOk, truD, cMod, cDiv, mkFn, mkFnO, endF, FL.cut, FL.cutS, mCall, mCallO, mCallK, sOwn, sRetO, sRetV, gIx, gDGet, keyD, getK, putKD, sDPutD, mDispN, mDicN, gAdd, gMul, gSl, mPn, mPs, mSl, cutA, HT.sIx, gMin2, gMax2, gList, gTuple, gLen, gIsi, isObjD, kindN, isiB, sForL, sForT, sForR, itemsD, rgOk, sPar, cond_true, cond_false, sizeLine_eq, sAppend, mPop]
      rw [e2, if_pos c]
      exact .inl ⟨_, _, rfl⟩
    · have e2 : bK [s0, .sh (tupP v), .sh (.int p.1), .sh (.int p.2)] = some (.nx [s0, .sh (tupP v), .sh (.int p.1), .sh (.int p.2)]) := by
        simp [bK, tupP, i0, i1, c, mC, mVar, mHs, mV, FL.m2, m2H, FL.m1, m1H, mNil, mCons, mMk, mTb, mTNot, mTAnd, mTOr, mTru, mAnd, mOr, mIf, mChain, sSeq, sNil, sIf, sRet, sDrop, sAsg, gSet, gSets, gUn, lentS_un, lentS_sh, lentS_owt, deref, gI, gB, gNeg, gNot, gTupD, gLstD, szOk, truD, cMod, cDiv, mkFn, mkFnO, endF, FL.cut, FL.cutS, mCall, mCallO, mCallK, sOwn, sRetO, sRetV, gIx, gDGet, keyD, getK, putKD, sDPutD, mDispN, mDicN, gAdd, gMul, gSl, mPn, mPs, mSl, cutA, HT.sIx, gMin2, gMax2, gList, gTuple, gLen, gIsi, isObjD, kindN, isiB, sForL, sForT, sForR, itemsD, rgOk, sPar, cond_true, cond_false, sizeLine_eq, sAppend, mPop]
      rw [e2, if_neg c]
      exact ih
theorem contains (ps : List PP) (v : PP) (hv : Pr v) : F_Stairs____contains__ [.sh (St ps), .sh (tupP v)] = some (.bl (contF (cornR ps).reverse v), [.un, .un]) := by
  have eb : B_Stairs____contains__ = (sSeq (sIf (mTNot (mTb (mCall F_is_pair (mCons (mVar 1) mNil)))) (sRet (mC (.bl false))) sNil)
    (sSeq (sForL (m1H (gFld "Stairs" "_corners") (mHs 0)) (gUn [(gSet 2), (gSet 3)]) bK) (sRet (mC (.bl false))))) := rfl
  have hq := is_pair_tup hv
  have hf : gFld "Stairs" "_corners" (St ps) = some (.lst ((cornR ps).reverse.map tupP)) := by simp [gFld, St, L]
  have k := loopK (.sh (St ps)) v (cornR ps).reverse .un .un rfl rfl
  generalize hG : (cornR ps).reverse.map tupP = G at k hf
  generalize St ps = R at k hf ⊢
  generalize contF (cornR ps).reverse v = b at k ⊢
  generalize tupP v = V at k hq ⊢
  unfold F_Stairs____contains__
  rw [eb]
  rcases k with ⟨y2, y3, k⟩ | ⟨y2, y3, k, rfl⟩
  · simp [hq, hf, k, mC, mVar, mHs, mV, FL.m2, m2H, FL.m1, m1H, mNil, mCons, mMk, mTb, mTNot, mTAnd, mTOr, mTru, mAnd, mOr, mIf, mChain, sSeq, sNil, sIf, sRet, sDrop, sAsg, gSet, gSets, gUn, lentS_un, lentS_sh, lentS_owt, deref, gI, gB, gNeg, gNot, gTupD, gLstD, szOk, truD, cMod, cDiv, mkFn, mkFnO, endF, FL.cut, FL.cutS, mCall, mCallO, mCallK, sOwn, sRetO, sRetV, gIx, gDGet, keyD, getK, putKD, sDPutD, mDispN, mDicN, gAdd, gMul, gSl, mPn, mPs, mSl, cutA, HT.sIx, gMin2, gMax2, gList, gTuple, gLen, gIsi, isObjD, kindN, isiB, sForL, sForT, sForR, itemsD, rgOk, sPar, cond_true, cond_false, sizeLine_eq, sAppend, mPop]
  · simp [hq, hf, k, mC, mVar, mHs, mV, FL.m2, m2H, FL.m1, m1H, mNil, mCons, mMk, mTb, mTNot, mTAnd, mTOr, mTru, mAnd, mOr, mIf, mChain, sSeq, sNil, sIf, sRet, sDrop, sAsg, gSet, gSets, gUn, lentS_un, lentS_sh, lentS_owt, deref, gI, gB, gNeg, gNot, gTupD, gLstD, szOk, truD, cMod, cDiv, mkFn, mkFnO, endF, FL.cut, FL.cutS, mCall, mCallO, mCallK, sOwn, sRetO, sRetV, gIx, gDGet, keyD, getK, putKD, sDPutD, mDispN, mDicN, gAdd, gMul, gSl, mPn, mPs, mSl, cutA, HT.sIx, gMin2, gMax2, gList, gTuple, gLen, gIsi, isObjD, kindN, isiB, sForL, sForT, sForR, itemsD, rgOk, sPar, cond_true, cond_false, sizeLine_eq, sAppend, mPop]
theorem contains_no (ps : List PP) (v : D) (h : pl2 v) (hv : pr v = false) : F_Stairs____contains__ [.sh (St ps), .sh v] = some (.bl false, [.un, .un]) := by
  have hq := f_is_pair v h
  rw [hv] at hq
  simp [F_Stairs____contains__, B_Stairs____contains__, hq, mC, mVar, mHs, mV, FL.m2, m2H, FL.m1, m1H, mNil, mCons, mMk, mTb, mTNot, mTAnd, mTOr, mTru, mAnd, mOr, mIf, mChain, sSeq, sNil, sIf, sRet, sDrop, sAsg, gSet, gSets, gUn, lentS_un, lentS_sh, lentS_owt, deref, gI, gB, gNeg, gNot, gTupD, gLstD, szOk, truD, cMod, cDiv, mkFn, mkFnO, endF, FL.cut, FL.cutS, mCall, mCallO, mCallK, sOwn, sRetO, sRetV, gIx, gDGet, keyD, getK, putKD, sDPutD, mDispN, mDicN, gAdd, gMul, gSl, mPn, mPs, mSl, cutA, HT.sIx, gMin2, gMax2, gList, gTuple, gLen, gIsi, isObjD, kindN, isiB, sForL, sForT, sForR, itemsD, rgOk, sPar, cond_true, cond_false, sizeLine_eq, sAppend, mPop]
end PL

namespace PL
open PySem PySem.Spec PyProof.Rows L2 FL
set_option maxRecDepth 100000
set_option maxHeartbeats 8000000
set_option linter.all false
theorem neL (xs : List D) (p : List PyData) (h : toPs xs = some p) (hs : SeqAt.shaped (.list p) = true) (b : Bool) (hb : PyData.eqv (.list p) (.list []) = b) : gNe (.lst xs) (.lst []) = some (.bl !b) := by
  show gNeD (.lst xs) (.lst []) = _
  unfold gNeD
  have e0 : toP (.lst xs) = some (.list p) := by unfold toP; rw [h]
  rw [e0]
  show (bif eqOk (.list p) (.list []) then some (D.bl (!PyData.eqv (.list p) (.list []))) else none) = _
  have e : eqOk (.list p) (.list []) = true := chk_yes ⟨hs, rfl⟩
  rw [e, hb]
  rfl
theorem neP (xs : List PP) (h : xs.length ≤ 5) : gNe (.lst (xs.map tupP)) (.lst []) = some (.bl !xs.isEmpty) := by
  match xs, h with
  | [], _ => exact neL _ _ rfl rfl true rfl
  | [a], _ => exact neL _ _ rfl rfl false rfl
  | [a, b], _ => exact neL _ _ rfl rfl false rfl
  | [a, b, c], _ => exact neL _ _ rfl rfl false rfl
  | [a, b, c, d], _ => exact neL _ _ rfl rfl false rfl
  | [a, b, c, d, e], _ => exact neL _ _ rfl rfl false rfl
def inP (v q : PP) : Bool := decide (v.1 ≤ q.1) && decide (q.2 ≤ v.2)
noncomputable def tH : M Bool := (mTAnd (mTb (mLe (mV (m2H gIx (mHs 1) (mV (mC (.int 0))))) (mV (m2H gIx (mHs 2) (mV (mC (.int 0))))))) (mTb (mGe (mV (m2H gIx (mHs 1) (mV (mC (.int 1))))) (mV (m2H gIx (mHs 2) (mV (mC (.int 1))))))))
theorem hasC (A : D) (v : PP) : ∀ l : List PP, compF [2] (gSet 2) PL.tH (mVar 2) (l.map tupP) [.sh A, .sh (tupP v), .un] = some ((l.filter (inP v)).map tupP, [.sh A, .sh (tupP v), .un])
  | [] => rfl
  | q :: l => by
    have ih := hasC A v l
    have i0 : atI [D.int v.1, D.int v.2] 0 = some (D.int v.1) := rfl
    have i1 : atI [D.int v.1, D.int v.2] 1 = some (D.int v.2) := rfl
    have j0 : atI [D.int q.1, D.int q.2] 0 = some (D.int q.1) := rfl
    have j1 : atI [D.int q.1, D.int q.2] 1 = some (D.int q.2) := rfl
    have st : PL.tH [.sh A, .sh (tupP v), .sh (tupP q)] = some (inP v q, [.sh A, .sh (tupP v), .sh (tupP q)]) := by
      by_cases c : v.1 ≤ q.1
      · simp [PL.tH, tupP, inP, i0, i1, j0, j1, c, mC, mVar, mHs, mV, FL.m2, m2H, FL.m1, m1H, mNil, mCons, mMk, mTb, mTNot, mTAnd, mTOr, mTru, mAnd, mOr, mIf, mChain, sSeq, sNil, sIf, sRet, sDrop, sAsg, gSet, gSets, gUn, lentS_un, lentS_sh, lentS_owt, deref, gI, gB, gNeg, gNot, gTupD, gLstD, szOk, truD, cMod, cDiv, mkFn, mkFnO, endF, FL.cut, FL.cutS, mCall, mCallO, mCallK, sOwn, sRetO, sRetV, gIx, gDGet, keyD, getK, putKD, sDPutD, mDispN, mDicN, gAdd, gMul, gSl, mPn, mPs, mSl, cutA, HT.sIx, gMin2, gMax2, gList, gTuple, gLen, gIsi, isObjD, kindN, isiB, sForL, sForT, sForR, itemsD, rgOk, sPar, cond_true, cond_false, sizeLine_eq, sAppend, mPop]
      · simp [PL.tH, tupP, inP, i0, i1, j0, j1, c, mC, mVar, mHs, mV, FL.m2, m2H, FL.m1, m1H, mNil, mCons, mMk, mTb, mTNot, mTAnd, mTOr, mTru, mAnd, mOr, mIf, mChain, sSeq, sNil, sIf, sRet, sDrop, sAsg, gSet, gSets, gUn, lentS_un, lentS_sh, lentS_owt, deref, gI, gB, gNeg, gNot, gTupD, gLstD, szOk, truD, cMod, cDiv, mkFn, mkFnO, endF, FL.cut, FL.cutS, mCall, mCallO, mCallK, sOwn, sRetO, sRetV, gIx, gDGet, keyD, getK, putKD, sDPutD, mDispN, mDicN, gAdd, gMul, gSl, mPn, mPs, mSl, cutA, HT.sIx, gMin2, gMax2, gList, gTuple, gLen, gIsi, isObjD, kindN, isiB, sForL, sForT, sForR, itemsD, rgOk, sPar, cond_true, cond_false, sizeLine_eq, sAppend, mPop]
    cases hb : inP v q with
    | true =>
      rw [hb] at st
      simp [compF, freeE, isOw, wipeE, lend, backC, backCS, gSet, lentS_un, st, ih, hb, mVar]
    | false =>
      rw [hb] at st
      simp [compF, freeE, isOw, wipeE, lend, backC, backCS, gSet, lentS_un, st, ih, hb]
theorem has (ps : List PP) (h : ps.length ≤ 5) (v : PP) : F__law_has [.sh (.lst (ps.map tupP)), .sh (tupP v)] = some (.bl (ps.any (inP v)), [.un, .un]) := by
  have eb : B__law_has = (sRet (m2H gNe (mV (mCompL (mVar 0) (gSet 2) PL.tH (mVar 2) [2])) (mV (mLst mNil)))) := rfl
  have q := hasC (.lst (ps.map tupP)) v ps
  have hl : (ps.filter (inP v)).length ≤ 5 := Nat.le_trans (List.length_filter_le _ _) h
  have hn := neP (ps.filter (inP v)) hl
  have hc : cLen ((ps.filter (inP v)).map tupP).length = true := by unfold cLen; simp; omega
  have he : (!(ps.filter (inP v)).isEmpty) = ps.any (inP v) := by
    rw [Bool.eq_iff_iff]
    simp
  rw [he] at hn
  unfold F__law_has
  rw [eb]
  generalize (ps.filter (inP v)).map tupP = W at q hn hc
  generalize ps.map tupP = G at q ⊢
  generalize tupP v = V at q ⊢
  simp [mCompL, q, hc, hn, mC, mVar, mHs, mV, FL.m2, m2H, FL.m1, m1H, mNil, mCons, mMk, mTb, mTNot, mTAnd, mTOr, mTru, mAnd, mOr, mIf, mChain, sSeq, sNil, sIf, sRet, sDrop, sAsg, gSet, gSets, gUn, lentS_un, lentS_sh, lentS_owt, deref, gI, gB, gNeg, gNot, gTupD, gLstD, szOk, truD, cMod, cDiv, mkFn, mkFnO, endF, FL.cut, FL.cutS, mCall, mCallO, mCallK, sOwn, sRetO, sRetV, gIx, gDGet, keyD, getK, putKD, sDPutD, mDispN, mDicN, gAdd, gMul, gSl, mPn, mPs, mSl, cutA, HT.sIx, gMin2, gMax2, gList, gTuple, gLen, gIsi, isObjD, kindN, isiB, sForL, sForT, sForR, itemsD, rgOk, sPar, cond_true, cond_false, sizeLine_eq, sAppend, mPop]
theorem agree (ps : List PP) (v : PP) : contF (cornR ps).reverse v = ps.any (inP v) := by
  rw [Bool.eq_iff_iff, corn_cont]
  simp [Has, inP]
end PL

namespace PL
open PySem PySem.Spec PyProof.Rows L2 FL
set_option maxRecDepth 100000
set_option maxHeartbeats 4000000
set_option linter.all false
/-! ### corners: the greatest pairs, ascending -/
def Asc (l : List PP) : Prop := l.Pairwise fun a b => a.1 < b.1 ∧ a.2 < b.2
/-- no other pair of the list brings p along -/
def Mx (ps : List PP) (p : PP) : Prop := ∀ o ∈ ps, o ≠ p → ¬ (p.1 ≤ o.1 ∧ o.2 ≤ p.2)
/-- the corners, ascending -/
def corn (ps : List PP) : List PP := (cornR ps).reverse
theorem corn_asc (ps : List PP) : Asc (corn ps) := List.pairwise_reverse.mpr (corn_inv ps).pw
theorem asc_pair {l : List PP} (h : Asc l) {a b : PP} (ha : a ∈ l) (hb : b ∈ l) : a = b ∨ (a.1 < b.1 ∧ a.2 < b.2) ∨ (b.1 < a.1 ∧ b.2 < a.2) := by
  induction l with
  | nil => cases ha
  | cons x t ih =>
    obtain ⟨h1, h2⟩ := List.pairwise_cons.mp h
    rcases List.mem_cons.mp ha with ha' | ha2
    · subst ha'
      rcases List.mem_cons.mp hb with hb' | hb
      · exact .inl hb'.symm
      · exact .inr (.inl (h1 b hb))
    · rcases List.mem_cons.mp hb with hb' | hb
      · subst hb'
        exact .inr (.inr (h1 a ha2))
      · exact ih h2 ha2 hb
theorem asc_ext : ∀ {l m : List PP}, Asc l → Asc m → (∀ q, q ∈ l ↔ q ∈ m) → l = m
  | [], [], _, _, _ => rfl
  | [], b :: m, _, _, h => absurd ((h b).mpr List.mem_cons_self) (by simp)
  | a :: l, [], _, _, h => absurd ((h a).mp List.mem_cons_self) (by simp)
  | a :: l, b :: m, h1, h2, h => by
    obtain ⟨a1, a2⟩ := List.pairwise_cons.mp h1
    obtain ⟨b1, b2⟩ := List.pairwise_cons.mp h2
    have e : a = b := by
      rcases List.mem_cons.mp ((h a).mp List.mem_cons_self) with e | ha
      · exact e
      · rcases List.mem_cons.mp ((h b).mpr List.mem_cons_self) with e | hb
        · exact e.symm
        · have := b1 a ha
          have := a1 b hb
          omega
    subst e
    congr 1
    refine asc_ext a2 b2 fun q => ⟨fun hq => ?_, fun hq => ?_⟩
    · rcases List.mem_cons.mp ((h q).mp (List.mem_cons_of_mem _ hq)) with e | hq'
      · have := a1 q hq
        rw [e] at this; omega
      · exact hq'
    · rcases List.mem_cons.mp ((h q).mpr (List.mem_cons_of_mem _ hq)) with e | hq'
      · have := b1 q hq
        rw [e] at this; omega
      · exact hq'
theorem corn_mem (ps : List PP) (q : PP) : q ∈ corn ps ↔ q ∈ ps ∧ Mx ps q := by
  have hs : ∀ r, r ∈ corn ps → r ∈ ps := fun r hr => (sortP_perm ps).mem_iff.mp ((corn_inv ps).sub r (List.mem_reverse.mp hr))
  have hh : ∀ v, Has ps v → ∃ r ∈ corn ps, v.1 ≤ r.1 ∧ r.2 ≤ v.2 := fun v hv => by
    obtain ⟨r, hr, h⟩ := (corn_has ps v).mpr hv
    exact ⟨r, List.mem_reverse.mpr hr, h⟩
  constructor
  · intro hq
    refine ⟨hs q hq, fun o ho hne h => ?_⟩
    obtain ⟨r, hr, h1, h2⟩ := hh o ⟨o, ho, Int.le_refl _, Int.le_refl _⟩
    rcases asc_pair (corn_asc ps) hq hr with rfl | hlt | hlt
    · exact hne (Prod.ext (by omega) (by omega))
    · omega
    · omega
  · rintro ⟨hq, hm⟩
    obtain ⟨r, hr, h1, h2⟩ := hh q ⟨q, hq, Int.le_refl _, Int.le_refl _⟩
    by_cases e : r = q
    · exact e ▸ hr
    · exact absurd ⟨h1, h2⟩ (hm r (hs r hr) e)
/-- two lists with the same pairs within have the same corners -/
theorem corn_ext {ps qs : List PP} (h : ∀ v, Has ps v ↔ Has qs v) : corn ps = corn qs := by
  refine asc_ext (corn_asc ps) (corn_asc qs) fun q => ?_
  have key : ∀ ps qs : List PP, (∀ v, Has ps v ↔ Has qs v) → q ∈ corn ps → q ∈ corn qs := fun ps qs h hq => by
    have hh : ∀ (l : List PP) v, Has l v ↔ Has (corn l) v := fun l v => (corn_has l v).symm.trans ⟨fun ⟨r, hr, x⟩ => ⟨r, List.mem_reverse.mpr hr, x⟩, fun ⟨r, hr, x⟩ => ⟨r, List.mem_reverse.mp hr, x⟩⟩
    obtain ⟨r, hr, h1, h2⟩ := (hh qs q).mp ((h q).mp ((hh ps q).mpr ⟨q, hq, Int.le_refl _, Int.le_refl _⟩))
    obtain ⟨r2, hr2, h3, h4⟩ := (hh ps r).mp ((h r).mpr ((hh qs r).mpr ⟨r, hr, Int.le_refl _, Int.le_refl _⟩))
    rcases asc_pair (corn_asc ps) hq hr2 with rfl | hlt | hlt
    · have : r = q := Prod.ext (by omega) (by omega)
      exact this ▸ hr
    · omega
    · omega
  exact ⟨key ps qs h, key qs ps fun v => (h v).symm⟩
/-! the law's own way -/
def lawIn (found : List PP) (p : PP) : List PP := found.take (found.filter fun o => decide (o.1 < p.1)).length ++ [p] ++ found.drop (found.filter fun o => decide (o.1 < p.1)).length
def lawStep (ps found : List PP) (p : PP) : List PP := if !decide (p ∈ found) && (ps.filter fun o => !decide (o = p) && inP p o).isEmpty then lawIn found p else found
def lawC (ps : List PP) : List PP := ps.foldl (lawStep ps) []
theorem asc_cut {x : Int} : ∀ {l : List PP}, Asc l → l.take (l.filter fun o => decide (o.1 < x)).length = l.filter (fun o => decide (o.1 < x)) ∧ l.drop (l.filter fun o => decide (o.1 < x)).length = l.filter (fun o => !decide (o.1 < x))
  | [], _ => ⟨rfl, rfl⟩
  | a :: t, h => by
    obtain ⟨h1, h2⟩ := List.pairwise_cons.mp h
    obtain ⟨i1, i2⟩ := asc_cut (x := x) h2
    by_cases c : a.1 < x
    · simp [List.filter_cons, c, i1, i2]
    · have e : t.filter (fun o => decide (o.1 < x)) = [] := by
        rw [List.filter_eq_nil_iff]
        intro o ho
        have := h1 o ho
        simp
        omega
      have e2 : t.filter (fun o => !decide (o.1 < x)) = t := by
        rw [List.filter_eq_self]
        intro o ho
        have := h1 o ho
        simp
        omega
      simp only [List.filter_cons, c, e, e2, decide_false, Bool.not_false, if_true, if_false, Bool.false_eq_true, List.length_nil, List.take_zero, List.drop_zero]
      exact ⟨trivial, trivial⟩
theorem lawIn_ok {found : List PP} {p : PP} (h : Asc found) (hp : ∀ q ∈ found, (q.1 < p.1 ∧ q.2 < p.2) ∨ (p.1 < q.1 ∧ p.2 < q.2)) : Asc (lawIn found p) ∧ ∀ q, q ∈ lawIn found p ↔ q = p ∨ q ∈ found := by
  obtain ⟨e1, e2⟩ := asc_cut (x := p.1) h
  unfold lawIn
  rw [e1, e2]
  refine ⟨?_, fun q => ?_⟩
  · refine List.pairwise_append.mpr ⟨List.pairwise_append.mpr ⟨List.Pairwise.filter _ h, List.pairwise_singleton _ _, fun a ha b hb => ?_⟩, List.Pairwise.filter _ h, fun a ha b hb => ?_⟩
    · rw [List.mem_singleton] at hb
      subst hb
      obtain ⟨h1, h2⟩ := List.mem_filter.mp ha
      have := hp a h1
      simp at h2
      omega
    · obtain ⟨h1, h2⟩ := List.mem_filter.mp hb
      have := hp b h1
      simp at h2
      rcases List.mem_append.mp ha with ha | ha
      · obtain ⟨h3, h4⟩ := List.mem_filter.mp ha
        have := hp a h3
        simp at h4
        omega
      · rw [List.mem_singleton] at ha
        subst ha
        omega
  · simp only [List.mem_append, List.mem_filter, List.mem_singleton]
    constructor
    · rintro ((⟨h1, _⟩ | h1) | ⟨h1, _⟩)
      · exact .inr h1
      · exact .inl h1
      · exact .inr h1
    · rintro (h1 | h1)
      · exact .inl (.inr h1)
      · by_cases c : q.1 < p.1
        · exact .inl (.inl ⟨h1, by simp [c]⟩)
        · exact .inr ⟨h1, by simp [c]⟩
theorem lawC_fold (ps : List PP) : ∀ (l done found : List PP), Asc found → (∀ q, q ∈ found ↔ q ∈ done ∧ Mx ps q) → (∀ q ∈ done, q ∈ ps) → (∀ q ∈ l, q ∈ ps) → Asc (l.foldl (lawStep ps) found) ∧ ∀ q, q ∈ l.foldl (lawStep ps) found ↔ (q ∈ done ∨ q ∈ l) ∧ Mx ps q
  | [], done, found, h1, h2, _, _ => ⟨h1, fun q => by rw [List.foldl_nil, h2]; simp⟩
  | p :: l, done, found, h1, h2, hd, hl => by
    have mx : (ps.filter fun o => !decide (o = p) && inP p o).isEmpty = true ↔ Mx ps p := by
      rw [List.isEmpty_iff, List.filter_eq_nil_iff]
      unfold Mx inP
      constructor
      · intro h o ho hne hh
        have := h o ho
        simp at this
        exact absurd (this hne hh.1) (by omega)
      · intro h o ho
        simp
        intro hne hle
        have := h o ho hne
        omega
    have nxt : Asc (lawStep ps found p) ∧ ∀ q, q ∈ lawStep ps found p ↔ q ∈ done ++ [p] ∧ Mx ps q := by
      unfold lawStep
      split
      · rename_i hc
        rw [Bool.and_eq_true, mx] at hc
        obtain ⟨hc1, hc2⟩ := hc
        simp at hc1
        have hp : ∀ q ∈ found, (q.1 < p.1 ∧ q.2 < p.2) ∨ (p.1 < q.1 ∧ p.2 < q.2) := fun q hq => by
          obtain ⟨hq1, hq2⟩ := (h2 q).mp hq
          have hne : q ≠ p := fun z => by subst z; exact hc1 hq
          have a := hq2 p (hl p List.mem_cons_self) (Ne.symm hne)
          have b := hc2 q (hd q hq1) hne
          omega
        obtain ⟨a, b⟩ := lawIn_ok h1 hp
        refine ⟨a, fun q => ?_⟩
        rw [b, h2]
        simp only [List.mem_append, List.mem_singleton]
        constructor
        · rintro (rfl | ⟨x, y⟩)
          · exact ⟨.inr rfl, hc2⟩
          · exact ⟨.inl x, y⟩
        · rintro ⟨x | x, y⟩
          · exact .inr ⟨x, y⟩
          · exact .inl x
      · rename_i hc
        rw [Bool.and_eq_true, mx] at hc
        refine ⟨h1, fun q => ?_⟩
        rw [h2]
        simp only [List.mem_append, List.mem_singleton]
        constructor
        · rintro ⟨x, y⟩
          exact ⟨.inl x, y⟩
        · rintro ⟨x | x, y⟩
          · exact ⟨x, y⟩
          · subst x
            refine (h2 q).mp (Classical.byContradiction fun z => hc ⟨by simpa using z, y⟩)
    rw [List.foldl_cons]
    obtain ⟨a, b⟩ := lawC_fold ps l (done ++ [p]) (lawStep ps found p) nxt.1 nxt.2 (fun q hq => by
      rcases List.mem_append.mp hq with hq | hq
      · exact hd q hq
      · rw [List.mem_singleton] at hq; subst hq; exact hl q List.mem_cons_self) fun q hq => hl q (List.mem_cons_of_mem _ hq)
    refine ⟨a, fun q => ?_⟩
    rw [b]
    simp only [List.mem_append, List.mem_cons, List.not_mem_nil, or_assoc, false_or]
theorem lawC_eq (ps : List PP) : lawC ps = corn ps := by
  obtain ⟨a, b⟩ := lawC_fold ps ps [] [] .nil (fun q => by simp) (fun q hq => by cases hq) fun q hq => hq
  refine asc_ext a (corn_asc ps) fun q => ?_
  have := b q
  unfold lawC
  rw [this, corn_mem]
  simp
end PL

namespace PL
open PySem PySem.Spec PyProof.Rows L2 FL
set_option maxRecDepth 100000
set_option maxHeartbeats 8000000
set_option linter.all false
/-! ### the law's corners -/
noncomputable def tO1 : M Bool := (mTAnd (mTb (m2H gNe (mHs 5) (mHs 2))) (mTb (mCall F__law_has (mCons (mLst (mCons (mVar 5) mNil)) (mCons (mVar 2) mNil)))))
noncomputable def tO2 : M Bool := (mTb (mLt (mV (m2H gIx (mHs 5) (mV (mC (.int 0))))) (mV (m2H gIx (mHs 2) (mV (mC (.int 0)))))))
noncomputable def bW : FS := (sSeq (sOwn 3 (mCompL (mVar 0) (gSet 5) tO1 (mVar 5) [5]))
  (sIf (mTAnd (mTb (m2H (gInL true) (mHs 2) (mHs 1))) (mTb (m2H gEq (mHs 3) (mV (mLst mNil))))) (sSeq (sAsg (gSet 4) (m1H gLen (mV (mCompH 1 (gSet 5) tO2 (mVar 5) [5]))))
  (sInsert 1 (mVar 4) (mVar 2))) sNil))
theorem compO1 (ps : List PP) (p : PP) (x1 x3 x4 : Sl) : compF [5] (gSet 5) tO1 (mVar 5) (ps.map tupP) [.sh (.lst (ps.map tupP)), x1, .sh (tupP p), x3, x4, .un] =
    some ((ps.filter fun o => !decide (o = p) && inP p o).map tupP, [.sh (.lst (ps.map tupP)), x1, .sh (tupP p), x3, x4, .un]) := by
  generalize hA : D.lst (ps.map tupP) = A
  refine comp_map (by simp [lend_nil, lend_cons, lendS_sh, lendS_un, lendS_ow, backCS_lendS, backCS_sh, backCS_un, backCS_ow, backC_nil, backC_cons, isOw_un, isOw_sh, wipeE, freeE]) ps fun o _ => ⟨?_⟩
  have h1 := neP1 o p
  have h2 := has [o] (by simp) p
  have e2 : [o].any (inP p) = inP p o := by simp
  rw [e2] at h2
  have e3 : [o].map tupP = [tupP o] := rfl
  rw [e3] at h2
  generalize inP p o = B at h2 ⊢
  generalize decide (o = p) = B1 at h1 ⊢
  generalize tupP p = V at h1 h2 ⊢
  generalize tupP o = W at h1 h2 ⊢
  refine ⟨[.sh A, lendS x1, .sh V, lendS x3, lendS x4, .sh W], [.sh A, lendS x1, .sh V, lendS x3, lendS x4, .sh W], ?_, ?_, ?_, fun _ => ⟨[.sh A, lendS x1, .sh V, lendS x3, lendS x4, .sh W], ?_, ?_⟩⟩
  · simp [gSet, lentS_un, lend_nil, lend_cons, lendS_sh, lendS_un, lendS_ow, backCS_lendS, backCS_sh, backCS_un, backCS_ow, backC_nil, backC_cons, isOw_un, isOw_sh, wipeE, freeE]
  · cases B1 <;> simp [tO1, h1, h2, mC, mVar, mHs, mV, FL.m2, m2H, FL.m1, m1H, mNil, mCons, mMk, mTb, mTNot, mTAnd, mTOr, mTru, mAnd, mOr, mIf, mChain, sSeq, sNil, sIf, sRet, sDrop, sAsg, gSet, gSets, gUn, lentS_un, lentS_sh, lentS_owt, deref, gI, gB, gNeg, gNot, gTupD, gLstD, szOk, truD, cMod, cDiv, mkFn, mkFnO, endF, FL.cut, FL.cutS, mCall, mCallO, mCallK, sOwn, sRetO, sRetV, gIx, gDGet, keyD, getK, putKD, sDPutD, mDispN, mDicN, gAdd, gMul, gSl, mPn, mPs, mSl, cutA, HT.sIx, gMin2, gMax2, gList, gTuple, gLen, gIsi, isObjD, kindN, isiB, sForL, sForT, sForR, itemsD, rgOk, sPar, cond_true, cond_false, sizeLine_eq, sAppend, mPop]
  · simp [lend_nil, lend_cons, lendS_sh, lendS_un, lendS_ow, backCS_lendS, backCS_sh, backCS_un, backCS_ow, backC_nil, backC_cons, isOw_un, isOw_sh, wipeE, freeE]
  · simp [mVar]
  · simp [lend_nil, lend_cons, lendS_sh, lendS_un, lendS_ow, backCS_lendS, backCS_sh, backCS_un, backCS_ow, backC_nil, backC_cons, isOw_un, isOw_sh, wipeE, freeE]
theorem compO2 (A : D) (found : List PP) (p : PP) (f : Bool) (x3 x4 : Sl) : compH 1 (found.map tupP) [5] (gSet 5) tO2 (mVar 5) (found.map tupP) [.sh A, .ow f (.lst (found.map tupP)), .sh (tupP p), x3, x4, .un] =
    some ((found.filter fun o => decide (o.1 < p.1)).map tupP, [.sh A, .ow f (.lst (found.map tupP)), .sh (tupP p), x3, x4, .un]) := by
  refine compH_map (by simp [lend_nil, lend_cons, lendS_sh, lendS_un, lendS_ow, backCS_lendS, backCS_sh, backCS_un, backCS_ow, backC_nil, backC_cons, isOw_un, isOw_sh, wipeE, freeE]) (keepB_yes (f := f) rfl) found fun o _ => ⟨?_⟩
  have i0 : atI [D.int p.1, D.int p.2] 0 = some (D.int p.1) := rfl
  have j0 : atI [D.int o.1, D.int o.2] 0 = some (D.int o.1) := rfl
  generalize D.lst (found.map tupP) = G
  refine ⟨[.sh A, .ow false G, .sh (tupP p), lendS x3, lendS x4, .sh (tupP o)], [.sh A, .ow false G, .sh (tupP p), lendS x3, lendS x4, .sh (tupP o)], ?_, ?_, ?_, fun _ => ⟨[.sh A, .ow false G, .sh (tupP p), lendS x3, lendS x4, .sh (tupP o)], ?_, ?_⟩⟩
  · simp [gSet, lentS_un, lend_nil, lend_cons, lendS_sh, lendS_un, lendS_ow, backCS_lendS, backCS_sh, backCS_un, backCS_ow, backC_nil, backC_cons, isOw_un, isOw_sh, wipeE, freeE]
  · simp [tO2, tupP, i0, j0, mC, mVar, mHs, mV, FL.m2, m2H, FL.m1, m1H, mNil, mCons, mMk, mTb, mTNot, mTAnd, mTOr, mTru, mAnd, mOr, mIf, mChain, sSeq, sNil, sIf, sRet, sDrop, sAsg, gSet, gSets, gUn, lentS_un, lentS_sh, lentS_owt, deref, gI, gB, gNeg, gNot, gTupD, gLstD, szOk, truD, cMod, cDiv, mkFn, mkFnO, endF, FL.cut, FL.cutS, mCall, mCallO, mCallK, sOwn, sRetO, sRetV, gIx, gDGet, keyD, getK, putKD, sDPutD, mDispN, mDicN, gAdd, gMul, gSl, mPn, mPs, mSl, cutA, HT.sIx, gMin2, gMax2, gList, gTuple, gLen, gIsi, isObjD, kindN, isiB, sForL, sForT, sForR, itemsD, rgOk, sPar, cond_true, cond_false, sizeLine_eq, sAppend, mPop]
  · simp [lend_nil, lend_cons, lendS_sh, lendS_un, lendS_ow, backCS_lendS, backCS_sh, backCS_un, backCS_ow, backC_nil, backC_cons, isOw_un, isOw_sh, wipeE, freeE]
  · simp [mVar]
  · simp [lend_nil, lend_cons, lendS_sh, lendS_un, lendS_ow, backCS_lendS, backCS_sh, backCS_un, backCS_ow, backC_nil, backC_cons, isOw_un, isOw_sh, wipeE, freeE]
theorem turnW (ps found : List PP) (p : PP) (x3 x4 : Sl) (h3 : lentS x3 = false) (h4 : lentS x4 = false) (hl : ps.length < 900) (hf : found.length < 900) :
    ∃ y3 y4, bW [.sh (.lst (ps.map tupP)), .ow true (.lst (found.map tupP)), .sh (tupP p), x3, x4, .un] = some (.nx [.sh (.lst (ps.map tupP)), .ow true (.lst ((lawStep ps found p).map tupP)), .sh (tupP p), y3, y4, .un]) ∧ lentS y3 = false ∧ lentS y4 = false := by
  have c1 := compO1 ps p (.ow true (.lst (found.map tupP))) x3 x4
  have hlo := List.length_filter_le (fun o => !decide (o = p) && inP p o) ps
  have hlf := List.length_filter_le (fun o => decide (o.1 < p.1)) found
  have k1 : cLen (((ps.filter fun o => !decide (o = p) && inP p o).map tupP).length) = true := by unfold cLen; simp; omega
  have k2 : cLen (((found.filter fun o => decide (o.1 < p.1)).map tupP).length) = true := by unfold cLen; simp; omega
  have q1 := inPairs true p found
  have q2 := eqPairs (ps.filter fun o => !decide (o = p) && inP p o) []
  have he : decide ((ps.filter fun o => !decide (o = p) && inP p o) = []) = (ps.filter fun o => !decide (o = p) && inP p o).isEmpty := by
    rw [Bool.eq_iff_iff]; simp
  rw [he] at q2
  have e0 : ([] : List PP).map tupP = [] := rfl
  rw [e0] at q2
  unfold lawStep
  have c2 := compO2 (.lst (ps.map tupP)) found p true (.ow true (.lst ((ps.filter fun o => !decide (o = p) && inP p o).map tupP))) x4
  generalize hO : ps.filter (fun o => !decide (o = p) && inP p o) = O at c1 k1 q2 c2 ⊢
  cases hc : (!decide (p ∈ found) && O.isEmpty) with
  | false =>
    refine ⟨.ow true (.lst (O.map tupP)), x4, ?_, rfl, h4⟩
    simp only [Bool.false_eq_true, if_false]
    generalize ps.map tupP = G at c1 ⊢
    generalize found.map tupP = F at c1 q1 ⊢
    generalize O.map tupP = OO at c1 k1 q2 ⊢
    generalize tupP p = V at c1 q1 ⊢
    cases hp : decide (p ∈ found) with
    | true =>
      rw [hp] at q1
      simp [bW, mCompL, c1, k1, q1, q2, h3, mC, mVar, mHs, mV, FL.m2, m2H, FL.m1, m1H, mNil, mCons, mMk, mTb, mTNot, mTAnd, mTOr, mTru, mAnd, mOr, mIf, mChain, sSeq, sNil, sIf, sRet, sDrop, sAsg, gSet, gSets, gUn, lentS_un, lentS_sh, lentS_owt, deref, gI, gB, gNeg, gNot, gTupD, gLstD, szOk, truD, cMod, cDiv, mkFn, mkFnO, endF, FL.cut, FL.cutS, mCall, mCallO, mCallK, sOwn, sRetO, sRetV, gIx, gDGet, keyD, getK, putKD, sDPutD, mDispN, mDicN, gAdd, gMul, gSl, mPn, mPs, mSl, cutA, HT.sIx, gMin2, gMax2, gList, gTuple, gLen, gIsi, isObjD, kindN, isiB, sForL, sForT, sForR, itemsD, rgOk, sPar, cond_true, cond_false, sizeLine_eq, sAppend, mPop]
    | false =>
      rw [hp] at q1 hc
      have hc' : O.isEmpty = false := by simpa using hc
      rw [hc'] at q2
      simp [bW, mCompL, c1, k1, q1, q2, h3, mC, mVar, mHs, mV, FL.m2, m2H, FL.m1, m1H, mNil, mCons, mMk, mTb, mTNot, mTAnd, mTOr, mTru, mAnd, mOr, mIf, mChain, sSeq, sNil, sIf, sRet, sDrop, sAsg, gSet, gSets, gUn, lentS_un, lentS_sh, lentS_owt, deref, gI, gB, gNeg, gNot, gTupD, gLstD, szOk, truD, cMod, cDiv, mkFn, mkFnO, endF, FL.cut, FL.cutS, mCall, mCallO, mCallK, sOwn, sRetO, sRetV, gIx, gDGet, keyD, getK, putKD, sDPutD, mDispN, mDicN, gAdd, gMul, gSl, mPn, mPs, mSl, cutA, HT.sIx, gMin2, gMax2, gList, gTuple, gLen, gIsi, isObjD, kindN, isiB, sForL, sForT, sForR, itemsD, rgOk, sPar, cond_true, cond_false, sizeLine_eq, sAppend, mPop]
  | true =>
    obtain ⟨hc1, hc2⟩ := Bool.and_eq_true_iff.mp hc
    have hp : decide (p ∈ found) = false := by simpa using hc1
    rw [hp] at q1
    rw [hc2] at q2
    simp only [if_true]
    refine ⟨.ow true (.lst (O.map tupP)), .sh (.int (found.filter fun o => decide (o.1 < p.1)).length), ?_, rfl, rfl⟩
    have hi : (lawIn found p).map tupP = (found.map tupP).take (found.filter fun o => decide (o.1 < p.1)).length ++ ([tupP p] ++ (found.map tupP).drop (found.filter fun o => decide (o.1 < p.1)).length) := by
      simp [lawIn, List.map_append, List.map_take, List.map_drop]
    rw [hi]
    have hn : ((found.filter fun o => decide (o.1 < p.1)).map tupP).length = (found.filter fun o => decide (o.1 < p.1)).length := by simp
    have hF : (found.map tupP).length < 900 := by simpa using hf
    generalize hN : (found.filter fun o => decide (o.1 < p.1)).length = n at hn hlf ⊢
    have hz : (n : Int) < 1000000 := by omega
    generalize (found.filter fun o => decide (o.1 < p.1)).map tupP = FF at c2 k2 hn
    generalize ps.map tupP = G at c1 c2 ⊢
    generalize found.map tupP = F at c1 q1 c2 hF ⊢
    generalize O.map tupP = OO at c1 k1 q2 c2 ⊢
    generalize tupP p = V at c1 q1 c2 ⊢
    have hF' : F.length < 1000000 := by omega
    rw [hn] at k2
    simp [bW, mCompL, mCompH, c1, k1, q1, q2, c2, k2, hn, hz, hF', h3, h4, sInsert, mC, mVar, mHs, mV, FL.m2, m2H, FL.m1, m1H, mNil, mCons, mMk, mTb, mTNot, mTAnd, mTOr, mTru, mAnd, mOr, mIf, mChain, sSeq, sNil, sIf, sRet, sDrop, sAsg, gSet, gSets, gUn, lentS_un, lentS_sh, lentS_owt, deref, gI, gB, gNeg, gNot, gTupD, gLstD, szOk, truD, cMod, cDiv, mkFn, mkFnO, endF, FL.cut, FL.cutS, mCall, mCallO, mCallK, sOwn, sRetO, sRetV, gIx, gDGet, keyD, getK, putKD, sDPutD, mDispN, mDicN, gAdd, gMul, gSl, mPn, mPs, mSl, cutA, HT.sIx, gMin2, gMax2, gList, gTuple, gLen, gIsi, isObjD, kindN, isiB, sForL, sForT, sForR, itemsD, rgOk, sPar, cond_true, cond_false, sizeLine_eq, sAppend, mPop]
theorem loopW (ps : List PP) (hl : ps.length < 400) : ∀ (l found : List PP) (x2 x3 x4 : Sl), lentS x2 = false → lentS x3 = false → lentS x4 = false → found.length + l.length < 800 →
    ∃ y2 y3 y4, loopF (gSet 2) bW (l.map tupP) [.sh (.lst (ps.map tupP)), .ow true (.lst (found.map tupP)), x2, x3, x4, .un] = some (.nx [.sh (.lst (ps.map tupP)), .ow true (.lst ((l.foldl (lawStep ps) found).map tupP)), y2, y3, y4, .un])
  | [], found, x2, x3, x4, _, _, _, _ => ⟨x2, x3, x4, rfl⟩
  | p :: l, found, x2, x3, x4, h2, h3, h4, hz => by
    simp only [List.length_cons] at hz
    obtain ⟨y3, y4, q, k3, k4⟩ := turnW ps found p x3 x4 h3 h4 (by omega) (by omega)
    have hs : (lawStep ps found p).length ≤ found.length + 1 := by
      unfold lawStep
      split
      · unfold lawIn
        simp [List.length_take, List.length_drop]
        omega
      · omega
    obtain ⟨z2, z3, z4, ih⟩ := loopW ps hl l (lawStep ps found p) (.sh (tupP p)) y3 y4 rfl k3 k4 (by omega)
    refine ⟨z2, z3, z4, ?_⟩
    rw [List.map_cons]
    unfold loopF
    have e1 : gSet 2 (tupP p) [.sh (.lst (ps.map tupP)), .ow true (.lst (found.map tupP)), x2, x3, x4, .un] = some [.sh (.lst (ps.map tupP)), .ow true (.lst (found.map tupP)), .sh (tupP p), x3, x4, .un] := by simp [gSet, h2]
    rw [e1]
    show (match bW [.sh (.lst (ps.map tupP)), .ow true (.lst (found.map tupP)), .sh (tupP p), x3, x4, .un] with
      | some (.nx e2) => loopF (gSet 2) bW (l.map tupP) e2
      | some (.ct e2) => loopF (gSet 2) bW (l.map tupP) e2
      | some (.bk e2) => some (.nx e2)
      | some (.rt d e2) => some (.rt d e2)
      | some (.ro d e2) => some (.ro d e2)
      | none => none) = _
    rw [q]
    exact ih
theorem law_corners (ps : List PP) (hl : ps.length < 400) : F__law_corners [.sh (.lst (ps.map tupP))] = some (.lst ((corn ps).map tupP), [.un]) := by
  have eb : B__law_corners = sSeq (sOwn 1 (mMk gLstD mNil)) (sSeq (sForL (mVar 0) (gSet 2) bW) (sRet (mVar 1))) := rfl
  obtain ⟨y2, y3, y4, q⟩ := loopW ps hl ps [] .un .un .un rfl rfl rfl (by simp; omega)
  rw [show ps.foldl (lawStep ps) [] = corn ps from lawC_eq ps] at q
  have e0 : ([] : List PP).map tupP = [] := rfl
  rw [e0] at q
  generalize (corn ps).map tupP = R at q ⊢
  generalize ps.map tupP = G at q ⊢
  generalize bW = W at q eb
  unfold F__law_corners
  rw [eb]
  simp [q, mC, mVar, mHs, mV, FL.m2, m2H, FL.m1, m1H, mNil, mCons, mMk, mTb, mTNot, mTAnd, mTOr, mTru, mAnd, mOr, mIf, mChain, sSeq, sNil, sIf, sRet, sDrop, sAsg, gSet, gSets, gUn, lentS_un, lentS_sh, lentS_owt, deref, gI, gB, gNeg, gNot, gTupD, gLstD, szOk, truD, cMod, cDiv, mkFn, mkFnO, endF, FL.cut, FL.cutS, mCall, mCallO, mCallK, sOwn, sRetO, sRetV, gIx, gDGet, keyD, getK, putKD, sDPutD, mDispN, mDicN, gAdd, gMul, gSl, mPn, mPs, mSl, cutA, HT.sIx, gMin2, gMax2, gList, gTuple, gLen, gIsi, isObjD, kindN, isiB, sForL, sForT, sForR, itemsD, rgOk, sPar, cond_true, cond_false, sizeLine_eq, sAppend, mPop]
end PL

namespace PL
open PySem PySem.Spec PyProof.Rows L2 FL
set_option maxRecDepth 100000
set_option maxHeartbeats 8000000
set_option linter.all false
/-! ### what a staircase tells of itself -/
def So (c : List PP) : D := .obj "Stairs" [("_corners", .lst (c.map tupP))]
theorem st_so (ps : List PP) : St ps = So (corn ps) := rfl
theorem fld (c : List PP) : gFld "Stairs" "_corners" (So c) = some (.lst (c.map tupP)) := by simp [FL.gFld, So]
theorem p_corners (c : List PP) (h : c.length ≤ 1000) : F_Stairs__corners [.sh (So c)] = some (.lst (c.map tupP), [.un]) := by
  have q : compF [1, 2] (gUn ([1, 2].map gSet)) mYes (mTup (mCons (mVar 1) (mCons (mVar 2) mNil))) (c.map tupP) [.sh (So c), .un, .un] = some ((c.filter fun _ => true).map tupP, [.sh (So c), .un, .un]) := by
    refine comp_map (by simp [lend_nil, lend_cons, lendS_sh, lendS_un, lendS_ow, backCS_lendS, backCS_sh, backCS_un, backCS_ow, backC_nil, backC_cons, isOw_un, isOw_sh, wipeE, freeE]) c fun o _ => ⟨?_⟩
    generalize So c = A
    refine ⟨[.sh A, .sh (.int o.1), .sh (.int o.2)], [.sh A, .sh (.int o.1), .sh (.int o.2)], ?_, ?_, ?_, fun _ => ⟨[.sh A, .sh (.int o.1), .sh (.int o.2)], ?_, ?_⟩⟩
    · simp [gUn, gSets, gSet, lentS_un, lentS_sh, tupP, lend_nil, lend_cons, lendS_sh, lendS_un, lendS_ow, backCS_lendS, backCS_sh, backCS_un, backCS_ow, backC_nil, backC_cons, isOw_un, isOw_sh, wipeE, freeE]
    · simp [mYes]
    · simp [lend_nil, lend_cons, lendS_sh, lendS_un, lendS_ow, backCS_lendS, backCS_sh, backCS_un, backCS_ow, backC_nil, backC_cons, isOw_un, isOw_sh, wipeE, freeE]
    · simp [tupP, mC, mVar, mHs, mV, FL.m2, m2H, FL.m1, m1H, mNil, mCons, mMk, mTb, mTNot, mTAnd, mTOr, mTru, mAnd, mOr, mIf, mChain, sSeq, sNil, sIf, sRet, sDrop, sAsg, gSet, gSets, gUn, lentS_un, lentS_sh, lentS_owt, deref, gI, gB, gNeg, gNot, gTupD, gLstD, szOk, truD, cMod, cDiv, mkFn, mkFnO, endF, FL.cut, FL.cutS, mCall, mCallO, mCallK, sOwn, sRetO, sRetV, gIx, gDGet, keyD, getK, putKD, sDPutD, mDispN, mDicN, gAdd, gMul, gSl, mPn, mPs, mSl, cutA, HT.sIx, gMin2, gMax2, gList, gTuple, gLen, gIsi, isObjD, kindN, isiB, sForL, sForT, sForR, itemsD, rgOk, sPar, cond_true, cond_false, sizeLine_eq, sAppend, mPop]
    · simp [lend_nil, lend_cons, lendS_sh, lendS_un, lendS_ow, backCS_lendS, backCS_sh, backCS_un, backCS_ow, backC_nil, backC_cons, isOw_un, isOw_sh, wipeE, freeE]
  rw [List.filter_eq_self.mpr (fun _ _ => rfl)] at q
  have k : cLen (c.map tupP).length = true := by unfold cLen; simp; omega
  have hf := fld c
  generalize So c = A at q hf ⊢
  generalize c.map tupP = G at q k hf ⊢
  have eb : B_Stairs__corners = sRetO (mCompL (m1H (gFld "Stairs" "_corners") (mHs 0)) (gUn ([1, 2].map gSet)) mYes (mTup (mCons (mVar 1) (mCons (mVar 2) mNil))) [1, 2]) := rfl
  unfold F_Stairs__corners
  rw [eb]
  generalize gUn ([1, 2].map gSet) = g at q ⊢
  generalize mTup (mCons (mVar 1) (mCons (mVar 2) mNil)) = el at q ⊢
  simp [mCompL, hf, q, k, mC, mVar, mHs, mV, FL.m2, m2H, FL.m1, m1H, mNil, mCons, mMk, mTb, mTNot, mTAnd, mTOr, mTru, mAnd, mOr, mIf, mChain, sSeq, sNil, sIf, sRet, sDrop, sAsg, gSet, gSets, gUn, lentS_un, lentS_sh, lentS_owt, deref, gI, gB, gNeg, gNot, gTupD, gLstD, szOk, truD, cMod, cDiv, mkFn, mkFnO, endF, FL.cut, FL.cutS, mCall, mCallO, mCallK, sOwn, sRetO, sRetV, gIx, gDGet, keyD, getK, putKD, sDPutD, mDispN, mDicN, gAdd, gMul, gSl, mPn, mPs, mSl, cutA, HT.sIx, gMin2, gMax2, gList, gTuple, gLen, gIsi, isObjD, kindN, isiB, sForL, sForT, sForR, itemsD, rgOk, sPar, cond_true, cond_false, sizeLine_eq, sAppend, mPop]
theorem p_len (c : List PP) : F_Stairs____len__ [.sh (So c)] = some (.int c.length, [.un]) := by
  have hf := fld c
  have hl : (c.map tupP).length = c.length := by simp
  generalize So c = A at hf ⊢
  generalize c.map tupP = G at hf hl
  simp [F_Stairs____len__, B_Stairs____len__, hf, hl, mC, mVar, mHs, mV, FL.m2, m2H, FL.m1, m1H, mNil, mCons, mMk, mTb, mTNot, mTAnd, mTOr, mTru, mAnd, mOr, mIf, mChain, sSeq, sNil, sIf, sRet, sDrop, sAsg, gSet, gSets, gUn, lentS_un, lentS_sh, lentS_owt, deref, gI, gB, gNeg, gNot, gTupD, gLstD, szOk, truD, cMod, cDiv, mkFn, mkFnO, endF, FL.cut, FL.cutS, mCall, mCallO, mCallK, sOwn, sRetO, sRetV, gIx, gDGet, keyD, getK, putKD, sDPutD, mDispN, mDicN, gAdd, gMul, gSl, mPn, mPs, mSl, cutA, HT.sIx, gMin2, gMax2, gList, gTuple, gLen, gIsi, isObjD, kindN, isiB, sForL, sForT, sForR, itemsD, rgOk, sPar, cond_true, cond_false, sizeLine_eq, sAppend, mPop]
theorem p_bool (c : List PP) : F_Stairs____bool__ [.sh (So c)] = some (.bl (!c.isEmpty), [.un]) := by
  have hf := fld c
  have hl : (c.map tupP).isEmpty = c.isEmpty := by cases c <;> rfl
  generalize So c = A at hf ⊢
  generalize c.map tupP = G at hf hl
  simp [F_Stairs____bool__, B_Stairs____bool__, hf, hl, gBoolL, mC, mVar, mHs, mV, FL.m2, m2H, FL.m1, m1H, mNil, mCons, mMk, mTb, mTNot, mTAnd, mTOr, mTru, mAnd, mOr, mIf, mChain, sSeq, sNil, sIf, sRet, sDrop, sAsg, gSet, gSets, gUn, lentS_un, lentS_sh, lentS_owt, deref, gI, gB, gNeg, gNot, gTupD, gLstD, szOk, truD, cMod, cDiv, mkFn, mkFnO, endF, FL.cut, FL.cutS, mCall, mCallO, mCallK, sOwn, sRetO, sRetV, gIx, gDGet, keyD, getK, putKD, sDPutD, mDispN, mDicN, gAdd, gMul, gSl, mPn, mPs, mSl, cutA, HT.sIx, gMin2, gMax2, gList, gTuple, gLen, gIsi, isObjD, kindN, isiB, sForL, sForT, sForR, itemsD, rgOk, sPar, cond_true, cond_false, sizeLine_eq, sAppend, mPop]
theorem p_eq (c d : List PP) : F_Stairs____eq__ [.sh (So c), .sh (So d)] = some (.bl (decide (c = d)), [.un, .un]) := by
  have h1 := fld c
  have h2 := fld d
  have h3 : gIsiO "Stairs" (So d) = some (.bl true) := by simp [gIsiO, So]
  have h4 := eqPairs c d
  generalize So c = A at h1 ⊢
  generalize So d = B at h2 h3 ⊢
  generalize c.map tupP = G at h1 h4
  generalize d.map tupP = G2 at h2 h4
  simp [F_Stairs____eq__, B_Stairs____eq__, h1, h2, h3, h4, mC, mVar, mHs, mV, FL.m2, m2H, FL.m1, m1H, mNil, mCons, mMk, mTb, mTNot, mTAnd, mTOr, mTru, mAnd, mOr, mIf, mChain, sSeq, sNil, sIf, sRet, sDrop, sAsg, gSet, gSets, gUn, lentS_un, lentS_sh, lentS_owt, deref, gI, gB, gNeg, gNot, gTupD, gLstD, szOk, truD, cMod, cDiv, mkFn, mkFnO, endF, FL.cut, FL.cutS, mCall, mCallO, mCallK, sOwn, sRetO, sRetV, gIx, gDGet, keyD, getK, putKD, sDPutD, mDispN, mDicN, gAdd, gMul, gSl, mPn, mPs, mSl, cutA, HT.sIx, gMin2, gMax2, gList, gTuple, gLen, gIsi, isObjD, kindN, isiB, sForL, sForT, sForR, itemsD, rgOk, sPar, cond_true, cond_false, sizeLine_eq, sAppend, mPop]
theorem p_eq_no (c : List PP) (d : D) (h : isObjD d = false) : F_Stairs____eq__ [.sh (So c), .sh d] = some (.bl false, [.un, .un]) := by
  have h3 : gIsiO "Stairs" d = some (.bl false) := by cases d <;> first | rfl | (cases h; done)
  generalize So c = A
  simp [F_Stairs____eq__, B_Stairs____eq__, h3, mC, mVar, mHs, mV, FL.m2, m2H, FL.m1, m1H, mNil, mCons, mMk, mTb, mTNot, mTAnd, mTOr, mTru, mAnd, mOr, mIf, mChain, sSeq, sNil, sIf, sRet, sDrop, sAsg, gSet, gSets, gUn, lentS_un, lentS_sh, lentS_owt, deref, gI, gB, gNeg, gNot, gTupD, gLstD, szOk, truD, cMod, cDiv, mkFn, mkFnO, endF, FL.cut, FL.cutS, mCall, mCallO, mCallK, sOwn, sRetO, sRetV, gIx, gDGet, keyD, getK, putKD, sDPutD, mDispN, mDicN, gAdd, gMul, gSl, mPn, mPs, mSl, cutA, HT.sIx, gMin2, gMax2, gList, gTuple, gLen, gIsi, isObjD, kindN, isiB, sForL, sForT, sForR, itemsD, rgOk, sPar, cond_true, cond_false, sizeLine_eq, sAppend, mPop]
/-! the text -/
noncomputable def tp (p : PP) : Str := ((Str.empty ++ (Str.ofString (toString p.1))) ++ (Str.ofString " ")) ++ (Str.ofString (toString p.2))
noncomputable def txt (c : List PP) : Str := Txt.join (Str.ofString ", ") (c.map tp)
def smI2 (p : PP) : Prop := p.1.natAbs < 10 ^ 60 ∧ p.2.natAbs < 10 ^ 60
theorem intOk_of {i : Int} (h : i.natAbs < 10 ^ 60) : intOk i = true := by
  refine chk_yes (log2_small ?_)
  exact Nat.lt_of_lt_of_le h (Nat.le_trans (by decide : 10 ^ 60 ≤ 2 ^ 200) (Nat.pow_le_pow_right (by decide) (by decide)))
theorem ts_len {i : Int} (h : i.natAbs < 10 ^ 60) : (Str.ofString (toString i)).length ≤ 61 := by
  rw [PySem.ofString_length]
  exact int_text_length_le10 (k := 60) (by decide) h
theorem tp_len {p : PP} (h : smI2 p) : (tp p).length ≤ 123 := by
  have a := ts_len h.1
  have b := ts_len h.2
  unfold tp
  rw [Str.length_append, Str.length_append, Str.length_append]
  have e : Str.empty.length = 0 := rfl
  have e2 : (Str.ofString " ").length = 1 := by rw [PySem.ofString_length]; rfl
  omega
theorem strs_map : ∀ xs : List Str, strsD (xs.map D.str) = some xs
  | [] => rfl
  | x :: xs => by
    show (match strsD (xs.map D.str) with
      | some xs => some (x :: xs)
      | none => none) = _
    rw [strs_map xs]
theorem js_ok (A : D) (p : PP) (h : smI2 p) : mJs [(m1 gFmt (mVar 1)), (mC (.str " ")), (m1 gFmt (mVar 2))] Str.empty [.sh A, .sh (.int p.1), .sh (.int p.2)] = some (.str (tp p), [.sh A, .sh (.int p.1), .sh (.int p.2)]) := by
  have a := ts_len h.1
  have b := ts_len h.2
  have e : Str.empty.length = 0 := rfl
  have e2 : (Str.ofString " ").length = 1 := by rw [PySem.ofString_length]; rfl
  have l1 : (Str.empty ++ (Str.ofString (toString p.1))).length ≤ sizeLine := by
    rw [Str.length_append]; exact Nat.le_trans (by omega : _ ≤ 1000) (by decide)
  have l2 : ((Str.empty ++ (Str.ofString (toString p.1))) ++ (Str.ofString " ")).length ≤ sizeLine := by
    rw [Str.length_append, Str.length_append]; exact Nat.le_trans (by omega : _ ≤ 1000) (by decide)
  have l3 : (tp p).length ≤ sizeLine := Nat.le_trans (tp_len h) (by decide)
  have f1 : gFmt (.int p.1) = some (.str (Str.ofString (toString p.1))) := by
    show (bif intOk p.1 then some (D.str (Str.ofString (toString p.1))) else none) = _
    rw [intOk_of h.1]; rfl
  have f2 : gFmt (.int p.2) = some (.str (Str.ofString (toString p.2))) := by
    show (bif intOk p.2 then some (D.str (Str.ofString (toString p.2))) else none) = _
    rw [intOk_of h.2]; rfl
  unfold mJs
  simp only [FL.m1, mVar, List.getElem?_cons_zero, List.getElem?_cons_succ, f1]
  rw [if_pos l1]
  unfold mJs
  simp only [mC]
  rw [if_pos l2]
  unfold mJs
  simp only [FL.m1, mVar, List.getElem?_cons_zero, List.getElem?_cons_succ, f2]
  rw [if_pos (show ((Str.empty ++ (Str.ofString (toString p.1))) ++ (Str.ofString " ") ++ (Str.ofString (toString p.2))).length ≤ sizeLine from l3)]
  rfl
theorem hsum : ∀ l : List PP, (∀ p ∈ l, smI2 p) → ((l.map tp).map (·.length)).sum ≤ l.length * 123
  | [], _ => by simp
  | p :: l, hp => by
    have i := hsum l fun q hq => hp q (List.mem_cons_of_mem _ hq)
    have j := tp_len (hp p List.mem_cons_self)
    simp only [List.map_cons, List.sum_cons, List.length_cons]
    omega
theorem p_text (c : List PP) (h : c.length ≤ 1000) (hs : ∀ p ∈ c, smI2 p) : F_Stairs__text [.sh (So c)] = some (.str (txt c), [.un]) := by
  have q : compF [1, 2] (gUn ([1, 2].map gSet)) mYes (mJs [(m1 gFmt (mVar 1)), (mC (.str " ")), (m1 gFmt (mVar 2))] Str.empty) (c.map tupP) [.sh (So c), .un, .un] = some ((c.filter fun _ => true).map (fun p => .str (tp p)), [.sh (So c), .un, .un]) := by
    refine comp_map (by simp [lend_nil, lend_cons, lendS_sh, lendS_un, lendS_ow, backCS_lendS, backCS_sh, backCS_un, backCS_ow, backC_nil, backC_cons, isOw_un, isOw_sh, wipeE, freeE]) c fun o ho => ⟨?_⟩
    have hj := js_ok (So c) o (hs o ho)
    generalize So c = A at hj ⊢
    refine ⟨[.sh A, .sh (.int o.1), .sh (.int o.2)], [.sh A, .sh (.int o.1), .sh (.int o.2)], ?_, ?_, ?_, fun _ => ⟨[.sh A, .sh (.int o.1), .sh (.int o.2)], hj, ?_⟩⟩
    · simp [gUn, gSets, gSet, lentS_un, lentS_sh, tupP, lend_nil, lend_cons, lendS_sh, lendS_un, lendS_ow, backCS_lendS, backCS_sh, backCS_un, backCS_ow, backC_nil, backC_cons, isOw_un, isOw_sh, wipeE, freeE]
    · simp [mYes]
    · simp [lend_nil, lend_cons, lendS_sh, lendS_un, lendS_ow, backCS_lendS, backCS_sh, backCS_un, backCS_ow, backC_nil, backC_cons, isOw_un, isOw_sh, wipeE, freeE]
    · simp [lend_nil, lend_cons, lendS_sh, lendS_un, lendS_ow, backCS_lendS, backCS_sh, backCS_un, backCS_ow, backC_nil, backC_cons, isOw_un, isOw_sh, wipeE, freeE]
  rw [List.filter_eq_self.mpr (fun _ _ => rfl)] at q
  have em : c.map (fun p => D.str (tp p)) = (c.map tp).map D.str := by simp
  rw [em] at q
  have k : cLen ((c.map tp).map D.str).length = true := by unfold cLen; simp; omega
  have hj : gJoin (.str ", ") (.lst ((c.map tp).map D.str)) = some (.str (txt c)) := by
    show (match strsD ((c.map tp).map D.str) with
      | some ys => bif joinFit (Str.ofString ", ") ys then some (D.str (Txt.join (Str.ofString ", ") ys)) else none
      | none => none) = _
    rw [strs_map]
    have hfit : joinFit (Str.ofString ", ") (c.map tp) = true := by
      unfold joinFit
      rw [decide_eq_true_eq]
      have := hsum c hs
      have e2 : (Str.ofString ", ").length = 2 := by rw [PySem.ofString_length]; rfl
      rw [List.length_map, e2]
      omega
    show (bif joinFit (Str.ofString ", ") (c.map tp) then some (D.str (Txt.join (Str.ofString ", ") (c.map tp))) else none) = _
    rw [hfit]
    rfl
  have hf := fld c
  generalize So c = A at q hf ⊢
  generalize c.map tupP = G at q hf
  generalize (c.map tp).map D.str = GS at q k hj
  have eb : B_Stairs__text = sRet (m2 gJoin (mC (.str ", ")) (mCompL (m1H (gFld "Stairs" "_corners") (mHs 0)) (gUn ([1, 2].map gSet)) mYes (mJs [(m1 gFmt (mVar 1)), (mC (.str " ")), (m1 gFmt (mVar 2))] Str.empty) [1, 2])) := rfl
  unfold F_Stairs__text
  rw [eb]
  generalize gUn ([1, 2].map gSet) = g at q ⊢
  generalize mJs [(m1 gFmt (mVar 1)), (mC (.str " ")), (m1 gFmt (mVar 2))] Str.empty = el at q ⊢
  simp [mCompL, hf, q, k, hj, mC, mVar, mHs, mV, FL.m2, m2H, FL.m1, m1H, mNil, mCons, mMk, mTb, mTNot, mTAnd, mTOr, mTru, mAnd, mOr, mIf, mChain, sSeq, sNil, sIf, sRet, sDrop, sAsg, gSet, gSets, gUn, lentS_un, lentS_sh, lentS_owt, deref, gI, gB, gNeg, gNot, gTupD, gLstD, szOk, truD, cMod, cDiv, mkFn, mkFnO, endF, FL.cut, FL.cutS, mCall, mCallO, mCallK, sOwn, sRetO, sRetV, gIx, gDGet, keyD, getK, putKD, sDPutD, mDispN, mDicN, gAdd, gMul, gSl, mPn, mPs, mSl, cutA, HT.sIx, gMin2, gMax2, gList, gTuple, gLen, gIsi, isObjD, kindN, isiB, sForL, sForT, sForR, itemsD, rgOk, sPar, cond_true, cond_false, sizeLine_eq, sAppend, mPop]
end PL

namespace PL
open PySem PySem.Spec PyProof.Rows L2 FL
set_option maxRecDepth 100000
set_option maxHeartbeats 8000000
set_option linter.all false
/-! ### small facts of corners, of what is shown -/
theorem fold_len : ∀ (l rev : List PP), (l.foldl pushC rev).length ≤ rev.length + l.length
  | [], rev => by simp
  | p :: l, rev => by
    have a := fold_len l (pushC rev p)
    have b := push_len rev p
    rw [List.foldl_cons, List.length_cons]
    omega
theorem corn_len (ps : List PP) : (corn ps).length ≤ ps.length := by
  unfold corn cornR
  rw [List.length_reverse]
  have := fold_len (sortP ps) []
  rw [(sortP_perm ps).length_eq] at this
  simpa using this
/-- corners as they come -/
structure OkC (c : List PP) : Prop where
  asc : Asc c
  len : c.length ≤ 1000
  pr : ∀ p ∈ c, Pr p
theorem okC_corn {ps : List PP} (h : ps.length ≤ 1000) (hp : ∀ p ∈ ps, Pr p) : OkC (corn ps) := ⟨corn_asc ps, Nat.le_trans (corn_len ps) h, fun p q => hp p ((corn_mem ps p).mp q).1⟩
theorem sm_of {p : PP} (h : Pr p) : smI2 p := by
  obtain ⟨a, b, c⟩ := h
  exact ⟨smI (by omega) (by omega), smI (by omega) (by omega)⟩
theorem OkC.sm {c : List PP} (h : OkC c) : ∀ p ∈ c, smI2 p := fun p hp => sm_of (h.pr p hp)
theorem rp_pairs {c : List PP} (h : c.length ≤ 1000) (hs : ∀ p ∈ c, smI2 p) : Rp (.lst (c.map tupP)) := by
  have key : ∀ l : List PP, (∀ p ∈ l, smI2 p) → smDs (l.map tupP) ∧ bkDs (l.map tupP) = 3 * l.length ∧ dpDs (l.map tupP) ≤ 1 := fun l => by
    induction l with
    | nil => intro _; exact ⟨by simp [smDs], by simp [bkDs], by simp [dpDs]⟩
    | cons p l ih =>
      intro hp
      obtain ⟨a, b, c⟩ := ih fun q hq => hp q (List.mem_cons_of_mem _ hq)
      obtain ⟨h1, h2⟩ := hp p List.mem_cons_self
      refine ⟨?_, ?_, ?_⟩
      · rw [List.map_cons]
        show smD (tupP p) ∧ smDs (l.map tupP)
        exact ⟨⟨h1, h2, trivial⟩, a⟩
      · rw [List.map_cons]
        show bkD (tupP p) + 1 + bkDs (l.map tupP) = _
        have : bkD (tupP p) = 2 := rfl
        rw [this, b, List.length_cons]
        omega
      · exact dpDs_pairs (p :: l)
  obtain ⟨a, b, d⟩ := key c hs
  refine ⟨a, ?_, ?_⟩
  · show bkDs (c.map tupP) ≤ 100000
    omega
  · show dpDs (c.map tupP) + 1 ≤ 60
    omega
theorem rB (b : Bool) : gRepr (.bl b) = some (.str (shT (.bl b))) := rp_ok ⟨by simp [smD], by simp [bkD], by simp [dpD]⟩
theorem rI (i : Int) (h : i.natAbs < 10 ^ 60) : gRepr (.int i) = some (.str (shT (.int i))) := rp_ok ⟨by simpa [smD] using h, by simp [bkD], by simp [dpD]⟩
theorem neBB (a b : Bool) : gNe (.bl a) (.bl b) = some (.bl (!decide (a = b))) := by
  rw [gNe_ok false rfl rfl (by simp [dpD]) (by simp [dpD])]
  congr 3
  rw [Bool.eq_iff_iff, FL.same_iff]
  simp
theorem eqBB (a b : Bool) : gEq (.bl a) (.bl b) = some (.bl (decide (a = b))) := by
  rw [gEq_ok false rfl rfl (by simp [dpD]) (by simp [dpD])]
  congr 2
  rw [Bool.eq_iff_iff, FL.same_iff]
  simp
/-- the empty staircase -/
theorem made0 : F_Stairs____init__ [.ow false (.obj "Stairs" []), .sh (.tup [])] = some (.non, [.ow false (So []), .un]) := by
  have q := init [] (by simp) (fun _ h => by cases h)
  have e : corn [] = [] := by rw [← lawC_eq]; rfl
  rw [st_so, e] at q
  exact q
end PL

namespace PL
open PySem PySem.Spec PyProof.Rows L2 FL
set_option maxRecDepth 100000
set_option maxHeartbeats 8000000
set_option linter.all false
/-! ### what two staircases share -/
def shareF : List PP → List PP → List PP
  | [], _ => []
  | _ :: _, [] => []
  | a :: as, b :: bs => if a.1 ≤ b.1 then (a.1, max a.2 b.2) :: shareF as (b :: bs) else (b.1, max a.2 b.2) :: shareF (a :: as) bs
  termination_by l m => l.length + m.length
theorem share_nil (m : List PP) : shareF [] m = [] := by unfold shareF; rfl
theorem share_nil2 (l : List PP) : shareF l [] = [] := by cases l <;> (unfold shareF; rfl)
theorem share_cons (a b : PP) (as bs : List PP) : shareF (a :: as) (b :: bs) = if a.1 ≤ b.1 then (a.1, max a.2 b.2) :: shareF as (b :: bs) else (b.1, max a.2 b.2) :: shareF (a :: as) bs := by
  rw [shareF]
theorem has_nil (v : PP) : Has [] v ↔ False := ⟨fun ⟨_, h, _⟩ => (by cases h), False.elim⟩
theorem has_cons (q : PP) (l : List PP) (v : PP) : Has (q :: l) v ↔ (v.1 ≤ q.1 ∧ q.2 ≤ v.2) ∨ Has l v :=
  ⟨fun ⟨r, hr, h⟩ => (List.mem_cons.mp hr).elim (fun e => .inl (e ▸ h)) (fun hr => .inr ⟨r, hr, h⟩), fun h => h.elim (fun h => ⟨q, List.mem_cons_self, h⟩) (fun ⟨r, hr, h⟩ => ⟨r, List.mem_cons_of_mem _ hr, h⟩)⟩
theorem has_app (l m : List PP) (v : PP) : Has (l ++ m) v ↔ Has l v ∨ Has m v := by
  induction l with
  | nil => simp [has_nil]
  | cons a l ih => rw [List.cons_append, has_cons, has_cons, ih, or_assoc]
theorem asc_le {a : PP} {l : List PP} (h : Asc (a :: l)) {v : PP} (hv : Has l v) : a.2 ≤ v.2 := by
  obtain ⟨q, hq, _, h2⟩ := hv
  have := (List.pairwise_cons.mp h).1 q hq
  omega
theorem asc_tl {a : PP} {l : List PP} (h : Asc (a :: l)) : Asc l := (List.pairwise_cons.mp h).2
theorem share_has : ∀ (n : Nat) (l m : List PP), l.length + m.length ≤ n → Asc l → Asc m → ∀ v, Has (shareF l m) v ↔ Has l v ∧ Has m v
  | _, [], m, _, _, _, v => by rw [share_nil]; simp [has_nil]
  | _, a :: as, [], _, _, _, v => by rw [share_nil2]; simp [has_nil]
  | 0, a :: as, b :: bs, h, _, _, v => by simp at h
  | n + 1, a :: as, b :: bs, h, h1, h2, v => by
    rw [share_cons]
    simp only [List.length_cons] at h
    by_cases c : a.1 ≤ b.1
    · rw [if_pos c, has_cons, share_has n as (b :: bs) (by simp; omega) (asc_tl h1) h2 v]
      have k1 := @asc_le a as h1 v
      have k2 := @asc_le b bs h2 v
      simp only [has_cons]
      constructor
      · rintro (⟨x, y⟩ | ⟨x, y⟩)
        · have hy : a.2 ≤ v.2 ∧ b.2 ≤ v.2 := by
            have := Int.le_max_left a.2 b.2
            have := Int.le_max_right a.2 b.2
            constructor <;> omega
          exact ⟨.inl ⟨x, hy.1⟩, .inl ⟨Int.le_trans x c, hy.2⟩⟩
        · exact ⟨.inr x, y⟩
      · rintro ⟨x | x, y⟩
        · refine .inl ⟨x.1, ?_⟩
          have : b.2 ≤ v.2 := y.elim (fun z => z.2) k2
          omega
        · exact .inr ⟨x, y⟩
    · rw [if_neg c, has_cons, share_has n (a :: as) bs (by simp; omega) h1 (asc_tl h2) v]
      have k1 := @asc_le a as h1 v
      have k2 := @asc_le b bs h2 v
      simp only [has_cons]
      constructor
      · rintro (⟨x, y⟩ | ⟨x, y⟩)
        · have hy : a.2 ≤ v.2 ∧ b.2 ≤ v.2 := by
            constructor <;> omega
          exact ⟨.inl ⟨by omega, hy.1⟩, .inl ⟨x, hy.2⟩⟩
        · exact ⟨x, .inr y⟩
      · rintro ⟨x, y | y⟩
        · refine .inl ⟨y.1, ?_⟩
          have : a.2 ≤ v.2 := x.elim (fun z => z.2) k1
          omega
        · exact .inr ⟨x, y⟩
theorem share_pr : ∀ (n : Nat) (l m : List PP), l.length + m.length ≤ n → (∀ p ∈ l, Pr p) → (∀ p ∈ m, Pr p) → (shareF l m).length ≤ l.length + m.length ∧ ∀ p ∈ shareF l m, Pr p
  | _, [], m, _, _, _ => by rw [share_nil]; simp
  | _, a :: as, [], _, _, _ => by rw [share_nil2]; simp
  | 0, a :: as, b :: bs, h, _, _ => by simp at h
  | n + 1, a :: as, b :: bs, h, h1, h2 => by
    rw [share_cons]
    simp only [List.length_cons] at h
    have ha := h1 a List.mem_cons_self
    have hb := h2 b List.mem_cons_self
    have hm : Pr (a.1, max a.2 b.2) ∧ (b.1 ≤ a.1 → Pr (b.1, max a.2 b.2)) := by
      obtain ⟨x, y, z⟩ := ha
      obtain ⟨x2, y2, z2⟩ := hb
      refine ⟨⟨x, ?_, ?_⟩, fun _ => ⟨x2, ?_, ?_⟩⟩ <;> simp only <;> omega
    by_cases c : a.1 ≤ b.1
    · rw [if_pos c]
      obtain ⟨i1, i2⟩ := share_pr n as (b :: bs) (by simp; omega) (fun p hp => h1 p (List.mem_cons_of_mem _ hp)) h2
      simp only [List.length_cons] at i1 ⊢
      refine ⟨by omega, fun p hp => ?_⟩
      rcases List.mem_cons.mp hp with rfl | hp
      · exact hm.1
      · exact i2 p hp
    · rw [if_neg c]
      obtain ⟨i1, i2⟩ := share_pr n (a :: as) bs (by simp; omega) h1 (fun p hp => h2 p (List.mem_cons_of_mem _ hp))
      simp only [List.length_cons] at i1 ⊢
      refine ⟨by omega, fun p hp => ?_⟩
      rcases List.mem_cons.mp hp with rfl | hp
      · exact hm.2 (by omega)
      · exact i2 p hp
/-! ### the program's way -/
theorem ix_nat {xs : List D} {i : Nat} {d : D} (h : xs[i]? = some d) : atI xs (i : Int) = some d := by
  unfold atI ixN
  have hl : i < xs.length := (List.getElem?_eq_some_iff.mp h).1
  rw [if_pos (by omega), if_pos (by omega)]
  simpa using h
noncomputable def tS : M Bool := (mTAnd (mTb (mLt (mHs 3) (mV (m1H gLen (mHs 0))))) (mTb (mLt (mHs 4) (mV (m1H gLen (mHs 1))))))
noncomputable def bS : FS := (sSeq (sAsg (gSet 5) (mMk gMin2 (mCons (m2H gIx (mV (m2H gIx (mHs 0) (mHs 3))) (mV (mC (.int 0)))) (mCons (m2H gIx (mV (m2H gIx (mHs 1) (mHs 4))) (mV (mC (.int 0)))) mNil))))
  (sSeq (sAppend 2 (mTup (mCons (mVar 5) (mCons (mMk gMax2 (mCons (m2H gIx (mV (m2H gIx (mHs 0) (mHs 3))) (mV (mC (.int 1)))) (mCons (m2H gIx (mV (m2H gIx (mHs 1) (mHs 4))) (mV (mC (.int 1)))) mNil))) mNil))))
  (sIf (mTb (m2H gEq (mV (m2H gIx (mV (m2H gIx (mHs 0) (mHs 3))) (mV (mC (.int 0))))) (mHs 5))) (sAug 3 (gAugAdd) (mC (.int 1))) (sAug 4 (gAugAdd) (mC (.int 1))))))
def Es (A B F : List D) (i j : Nat) (x : Sl) : En := [.sh (.lst A), .sh (.lst B), .ow true (.lst F), .sh (.int (i : Int)), .sh (.int (j : Int)), x]
theorem tst_s (A B F : List D) (i j : Nat) (x : Sl) : tS (Es A B F i j x) = some (decide (i < A.length) && decide (j < B.length), Es A B F i j x) := by
  have e1 : decide ((i : Int) < (A.length : Int)) = decide (i < A.length) := by simp
  have e2 : decide ((j : Int) < (B.length : Int)) = decide (j < B.length) := by simp
  unfold Es tS
  cases c : decide (i < A.length) with
  | false => rw [c] at e1; simp only [Bool.false_and]; simp [e1, c, mC, mVar, mHs, mV, FL.m2, m2H, FL.m1, m1H, mNil, mCons, mMk, mTb, mTNot, mTAnd, mTOr, mTru, mAnd, mOr, mIf, mChain, sSeq, sNil, sIf, sRet, sDrop, sAsg, gSet, gSets, gUn, lentS_un, lentS_sh, lentS_owt, deref, gI, gB, gNeg, gNot, gTupD, gLstD, szOk, truD, cMod, cDiv, mkFn, mkFnO, endF, FL.cut, FL.cutS, mCall, mCallO, mCallK, sOwn, sRetO, sRetV, gIx, gDGet, keyD, getK, putKD, sDPutD, mDispN, mDicN, gAdd, gMul, gSl, mPn, mPs, mSl, cutA, HT.sIx, gMin2, gMax2, gList, gTuple, gLen, gIsi, isObjD, kindN, isiB, sForL, sForT, sForR, itemsD, rgOk, sPar, cond_true, cond_false, sizeLine_eq, sAppend, mPop]
  | true => rw [c] at e1; simp only [Bool.true_and]; simp [e1, e2, c, mC, mVar, mHs, mV, FL.m2, m2H, FL.m1, m1H, mNil, mCons, mMk, mTb, mTNot, mTAnd, mTOr, mTru, mAnd, mOr, mIf, mChain, sSeq, sNil, sIf, sRet, sDrop, sAsg, gSet, gSets, gUn, lentS_un, lentS_sh, lentS_owt, deref, gI, gB, gNeg, gNot, gTupD, gLstD, szOk, truD, cMod, cDiv, mkFn, mkFnO, endF, FL.cut, FL.cutS, mCall, mCallO, mCallK, sOwn, sRetO, sRetV, gIx, gDGet, keyD, getK, putKD, sDPutD, mDispN, mDicN, gAdd, gMul, gSl, mPn, mPs, mSl, cutA, HT.sIx, gMin2, gMax2, gList, gTuple, gLen, gIsi, isObjD, kindN, isiB, sForL, sForT, sForR, itemsD, rgOk, sPar, cond_true, cond_false, sizeLine_eq, sAppend, mPop]
theorem turn_s (A B F : List D) (i j : Nat) (x : Sl) (hx : lentS x = false) (hF : F.length < 1000000) (a b : PP) (ha : A[i]? = some (tupP a)) (hb : B[j]? = some (tupP b)) :
    bS (Es A B F i j x) = some (.nx (if a.1 ≤ b.1 then Es A B (F ++ [tupP (a.1, max a.2 b.2)]) (i + 1) j (.sh (.int a.1)) else Es A B (F ++ [tupP (b.1, max a.2 b.2)]) i (j + 1) (.sh (.int b.1)))) := by
  have i1 := ix_nat ha
  have i2 := ix_nat hb
  have a0 : atI [D.int a.1, D.int a.2] 0 = some (D.int a.1) := rfl
  have a1 : atI [D.int a.1, D.int a.2] 1 = some (D.int a.2) := rfl
  have b0 : atI [D.int b.1, D.int b.2] 0 = some (D.int b.1) := rfl
  have b1 : atI [D.int b.1, D.int b.2] 1 = some (D.int b.2) := rfl
  have ii : (i : Int) + 1 = ((i + 1 : Nat) : Int) := by omega
  have jj : (j : Int) + 1 = ((j + 1 : Nat) : Int) := by omega
  unfold tupP at i1 i2 ⊢
  unfold Es bS
  by_cases c : a.1 ≤ b.1
  · rw [if_pos c]
    have mn : (if b.1 < a.1 then b.1 else a.1) = a.1 := if_neg (by omega)
    have mx : (if b.2 > a.2 then b.2 else a.2) = max a.2 b.2 := by split <;> omega
    have eq := eqI a.1 a.1
    rw [decide_eq_true rfl] at eq
    generalize max a.2 b.2 = M at mx ⊢
    simp [i1, i2, a0, a1, b0, b1, mn, mx, eq, hx, hF, sAppend, FL.sAug, gAugAdd, mC, mVar, mHs, mV, FL.m2, m2H, FL.m1, m1H, mNil, mCons, mMk, mTb, mTNot, mTAnd, mTOr, mTru, mAnd, mOr, mIf, mChain, sSeq, sNil, sIf, sRet, sDrop, sAsg, gSet, gSets, gUn, lentS_un, lentS_sh, lentS_owt, deref, gI, gB, gNeg, gNot, gTupD, gLstD, szOk, truD, cMod, cDiv, mkFn, mkFnO, endF, FL.cut, FL.cutS, mCall, mCallO, mCallK, sOwn, sRetO, sRetV, gIx, gDGet, keyD, getK, putKD, sDPutD, mDispN, mDicN, gAdd, gMul, gSl, mPn, mPs, mSl, cutA, HT.sIx, gMin2, gMax2, gList, gTuple, gLen, gIsi, isObjD, kindN, isiB, sForL, sForT, sForR, itemsD, rgOk, sPar, cond_true, cond_false, sizeLine_eq, sAppend, mPop]
  · rw [if_neg c]
    have mn : (if b.1 < a.1 then b.1 else a.1) = b.1 := if_pos (by omega)
    have mx : (if b.2 > a.2 then b.2 else a.2) = max a.2 b.2 := by split <;> omega
    have eq := eqI a.1 b.1
    rw [decide_eq_false (by omega)] at eq
    generalize max a.2 b.2 = M at mx ⊢
    simp [i1, i2, a0, a1, b0, b1, mn, mx, eq, hx, hF, sAppend, FL.sAug, gAugAdd, mC, mVar, mHs, mV, FL.m2, m2H, FL.m1, m1H, mNil, mCons, mMk, mTb, mTNot, mTAnd, mTOr, mTru, mAnd, mOr, mIf, mChain, sSeq, sNil, sIf, sRet, sDrop, sAsg, gSet, gSets, gUn, lentS_un, lentS_sh, lentS_owt, deref, gI, gB, gNeg, gNot, gTupD, gLstD, szOk, truD, cMod, cDiv, mkFn, mkFnO, endF, FL.cut, FL.cutS, mCall, mCallO, mCallK, sOwn, sRetO, sRetV, gIx, gDGet, keyD, getK, putKD, sDPutD, mDispN, mDicN, gAdd, gMul, gSl, mPn, mPs, mSl, cutA, HT.sIx, gMin2, gMax2, gList, gTuple, gLen, gIsi, isObjD, kindN, isiB, sForL, sForT, sForR, itemsD, rgOk, sPar, cond_true, cond_false, sizeLine_eq, sAppend, mPop]

theorem whS (A B : List PP) : ∀ (n i j k : Nat) (F : List PP) (x : Sl), lentS x = false → (A.length - i) + (B.length - j) ≤ k → k < n → F.length + k < 1000000 → ∃ i' j' x', whileF tS bS n (Es (A.map tupP) (B.map tupP) (F.map tupP) i j x) = some (.nx (Es (A.map tupP) (B.map tupP) ((F ++ shareF (A.drop i) (B.drop j)).map tupP) i' j' x'))
  | 0, _, _, k, _, _, _, _, h, _ => by omega
  | n + 1, i, j, k, F, x, hx, hk, hn, hF => by
    have t := tst_s (A.map tupP) (B.map tupP) (F.map tupP) i j x
    rw [List.length_map, List.length_map] at t
    by_cases c : i < A.length ∧ j < B.length
    · rw [decide_eq_true c.1, decide_eq_true c.2] at t
      have ha : (A.map tupP)[i]? = some (tupP A[i]) := by simp [c.1]
      have hb : (B.map tupP)[j]? = some (tupP B[j]) := by simp [c.2]
      have u := turn_s (A.map tupP) (B.map tupP) (F.map tupP) i j x hx (by simp; omega) A[i] B[j] ha hb
      have dA : A.drop i = A[i] :: A.drop (i + 1) := List.drop_eq_getElem_cons c.1
      have dB : B.drop j = B[j] :: B.drop (j + 1) := List.drop_eq_getElem_cons c.2
      have sh : shareF (A.drop i) (B.drop j) = if A[i].1 ≤ B[j].1 then (A[i].1, max A[i].2 B[j].2) :: shareF (A.drop (i + 1)) (B.drop j) else (B[j].1, max A[i].2 B[j].2) :: shareF (A.drop i) (B.drop (j + 1)) := by
        rw [dA, dB, share_cons, ← dA, ← dB]
      have st : whileF tS bS (n + 1) (Es (A.map tupP) (B.map tupP) (F.map tupP) i j x) = whileF tS bS n (if A[i].1 ≤ B[j].1 then Es (A.map tupP) (B.map tupP) (F.map tupP ++ [tupP (A[i].1, max A[i].2 B[j].2)]) (i + 1) j (.sh (.int A[i].1)) else Es (A.map tupP) (B.map tupP) (F.map tupP ++ [tupP (B[j].1, max A[i].2 B[j].2)]) i (j + 1) (.sh (.int B[j].1))) := by
        rw [whileF, t]
        show (match bS (Es (A.map tupP) (B.map tupP) (F.map tupP) i j x) with
          | some (.nx e2) => whileF tS bS n e2
          | some (.ct e2) => whileF tS bS n e2
          | some (.bk e2) => some (.nx e2)
          | some (.rt d e2) => some (.rt d e2)
          | some (.ro d e2) => some (.ro d e2)
          | none => none) = _
        rw [u]
      rw [st, sh]
      by_cases c2 : A[i].1 ≤ B[j].1
      · rw [if_pos c2, if_pos c2]
        have ap : F.map tupP ++ [tupP (A[i].1, max A[i].2 B[j].2)] = (F ++ [(A[i].1, max A[i].2 B[j].2)]).map tupP := by rw [List.map_append]; rfl
        rw [ap]
        obtain ⟨i', j', x', q⟩ := whS A B n (i + 1) j (k - 1) (F ++ [(A[i].1, max A[i].2 B[j].2)]) (.sh (.int A[i].1)) rfl (by omega) (by omega) (by simp; omega)
        refine ⟨i', j', x', ?_⟩
        rw [q, List.append_assoc]
        rfl
      · rw [if_neg c2, if_neg c2]
        have ap : F.map tupP ++ [tupP (B[j].1, max A[i].2 B[j].2)] = (F ++ [(B[j].1, max A[i].2 B[j].2)]).map tupP := by rw [List.map_append]; rfl
        rw [ap]
        obtain ⟨i', j', x', q⟩ := whS A B n i (j + 1) (k - 1) (F ++ [(B[j].1, max A[i].2 B[j].2)]) (.sh (.int B[j].1)) rfl (by omega) (by omega) (by simp; omega)
        refine ⟨i', j', x', ?_⟩
        rw [q, List.append_assoc]
        rfl
    · have f : (decide (i < A.length) && decide (j < B.length)) = false := by
        rw [Bool.eq_false_iff]
        intro h
        simp at h
        exact c h
      rw [f] at t
      have sh : shareF (A.drop i) (B.drop j) = [] := by
        by_cases hi : i < A.length
        · rw [show B.drop j = [] from List.drop_eq_nil_of_le (by omega), share_nil2]
        · rw [show A.drop i = [] from List.drop_eq_nil_of_le (by omega), share_nil]
      refine ⟨i, j, x, ?_⟩
      rw [whileF, t, sh, List.append_nil]
theorem p_share (A B : List PP) (ha : A.length ≤ 1000) (hb : B.length ≤ 1000) : F__shared_pairs [.sh (.lst (A.map tupP)), .sh (.lst (B.map tupP))] = some (.lst ((shareF A B).map tupP), [.un, .un]) := by
  have eb : B__shared_pairs = (sSeq (sOwn 2 (mMk gLstD mNil)) (sSeq (sAsg (gSet 3) (mC (.int 0))) (sSeq (sAsg (gSet 4) (mC (.int 0))) (sSeq (sWhile 100000 tS bS) (sRet (mVar 2)))))) := rfl
  obtain ⟨i', j', x', q⟩ := whS A B 100000 0 0 2000 [] .un rfl (by omega) (by omega) (by simp)
  rw [List.drop_zero, List.drop_zero, List.nil_append] at q
  have e0 : ([] : List PP).map tupP = [] := rfl
  rw [e0] at q
  unfold F__shared_pairs
  rw [eb]
  unfold Es at q
  generalize A.map tupP = GA at q ⊢
  generalize B.map tupP = GB at q ⊢
  generalize (shareF A B).map tupP = GS at q ⊢
  have q' : sWhile 100000 tS bS [.sh (.lst GA), .sh (.lst GB), .ow true (.lst []), .sh (.int 0), .sh (.int 0), .un] = _ := q
  generalize sWhile 100000 tS bS = W at q' ⊢
  simp [q', mC, mVar, mHs, mV, FL.m2, m2H, FL.m1, m1H, mNil, mCons, mMk, mTb, mTNot, mTAnd, mTOr, mTru, mAnd, mOr, mIf, mChain, sSeq, sNil, sIf, sRet, sDrop, sAsg, gSet, gSets, gUn, lentS_un, lentS_sh, lentS_owt, deref, gI, gB, gNeg, gNot, gTupD, gLstD, szOk, truD, cMod, cDiv, mkFn, mkFnO, endF, FL.cut, FL.cutS, mCall, mCallO, mCallK, sOwn, sRetO, sRetV, gIx, gDGet, keyD, getK, putKD, sDPutD, mDispN, mDicN, gAdd, gMul, gSl, mPn, mPs, mSl, cutA, HT.sIx, gMin2, gMax2, gList, gTuple, gLen, gIsi, isObjD, kindN, isiB, sForL, sForT, sForR, itemsD, rgOk, sPar, cond_true, cond_false, sizeLine_eq, sAppend, mPop]
/-- the pairs of either, of both -/
def U (c d : List PP) : List PP := corn (c ++ d)
def I (c d : List PP) : List PP := corn (shareF c d)
theorem corn_has' (ps : List PP) (v : PP) : Has (corn ps) v ↔ Has ps v := Iff.trans ⟨fun ⟨r, hr, x⟩ => ⟨r, List.mem_reverse.mp hr, x⟩, fun ⟨r, hr, x⟩ => ⟨r, List.mem_reverse.mpr hr, x⟩⟩ (corn_has ps v)
theorem has_U (c d : List PP) (v : PP) : Has (U c d) v ↔ Has c v ∨ Has d v := (corn_has' _ v).trans (has_app c d v)
theorem has_I {c d : List PP} (hc : Asc c) (hd : Asc d) (v : PP) : Has (I c d) v ↔ Has c v ∧ Has d v := (corn_has' _ v).trans (share_has _ c d (Nat.le_refl _) hc hd v)
/-- ascending lists are told by their pairs -/
theorem asc_has {c d : List PP} (hc : Asc c) (hd : Asc d) (h : ∀ v, Has c v ↔ Has d v) : c = d := by
  have fx : ∀ {l : List PP}, Asc l → corn l = l := fun {l} hl => asc_ext (corn_asc l) hl fun q => by
    rw [corn_mem]
    refine ⟨fun h => h.1, fun h => ⟨h, fun o ho hne hh => ?_⟩⟩
    rcases asc_pair hl h ho with e | e | e
    · exact hne e.symm
    · omega
    · omega
  rw [← fx hc, ← fx hd]
  exact corn_ext h
/-- a staircase's corners, not too many -/
structure Ok (n : Nat) (c : List PP) : Prop where
  asc : Asc c
  len : c.length ≤ n
  pr : ∀ p ∈ c, Pr p
theorem ok_corn {n : Nat} {ps : List PP} (h : ps.length ≤ n) (hp : ∀ p ∈ ps, Pr p) : Ok n (corn ps) := ⟨corn_asc ps, Nat.le_trans (corn_len ps) h, fun p q => hp p ((corn_mem ps p).mp q).1⟩
theorem ok_U {n m : Nat} {c d : List PP} (hc : Ok n c) (hd : Ok m d) : Ok (n + m) (U c d) := ok_corn (by have := hc.len; have := hd.len; simp; omega) fun p hp => (List.mem_append.mp hp).elim (hc.pr p) (hd.pr p)
theorem ok_I {n m : Nat} {c d : List PP} (hc : Ok n c) (hd : Ok m d) : Ok (n + m) (I c d) := by
  obtain ⟨a, b⟩ := share_pr _ c d (Nat.le_refl _) hc.pr hd.pr
  exact ok_corn (by have := hc.len; have := hd.len; omega) b
theorem Ok.c {n : Nat} {c : List PP} (h : Ok n c) (hn : n ≤ 1000) : OkC c := ⟨h.asc, Nat.le_trans h.len hn, h.pr⟩
theorem p_make (l : List PP) (h : l.length < 900) (hp : ∀ p ∈ l, Pr p) {fa : M (List D)} {e e1 : En} (q : fa e = some (l.map tupP, e1)) : mMakeS "Stairs" F_Stairs____init__ fa e = some (So (corn l), e1) := by
  have i := init l h hp
  rw [st_so] at i
  have hc : cLen (l.map tupP).length = true := by unfold cLen; simp; omega
  unfold mMakeS
  rw [q]
  simp only [hc, cond_true, i]
theorem p_or {n m : Nat} {c d : List PP} (hc : Ok n c) (hd : Ok m d) (hn : n + m < 900) : F_Stairs____or__ [.sh (So c), .sh (So d)] = some (So (U c d), [.un, .un]) := by
  have eb : B_Stairs____or__ = (sSeq (sAsg (gSet 2) (mLst (mStar (m1H (gFld "Stairs" "_corners") (mHs 0)) (mStar (m1H (gFld "Stairs" "_corners") (mHs 1)) mNil)))) (sRet (mMakeS "Stairs" F_Stairs____init__ (mStar (mVar 2) mNil)))) := rfl
  have hl : (c ++ d).length < 900 := by have := hc.len; have := hd.len; simp; omega
  have mk := fun (e e1 : En) (fa : M (List D)) (q : fa e = some ((c ++ d).map tupP, e1)) => p_make (c ++ d) hl (fun p hp => (List.mem_append.mp hp).elim (hc.pr p) (hd.pr p)) q
  have f1 := fld c
  have f2 := fld d
  have mk' := mk [.sh (So c), .sh (So d), .sh (.lst ((c ++ d).map tupP))] [.sh (So c), .sh (So d), .sh (.lst ((c ++ d).map tupP))] (mStar (mVar 2) mNil) (by simp [FL.mStar, FL.seqD, mVar, mNil])
  have hz : (c.map tupP).length + (d.map tupP).length ≤ 16777216 := by have := hc.len; have := hd.len; simp; omega
  unfold F_Stairs____or__ U
  rw [eb]
  rw [List.map_append] at mk'
  generalize So (corn (c ++ d)) = R at mk' ⊢
  generalize So c = C at mk' f1 ⊢
  generalize So d = D' at mk' f2 ⊢
  generalize c.map tupP = GC at mk' f1 hz ⊢
  generalize d.map tupP = GD at mk' f2 hz ⊢
  generalize mMakeS "Stairs" F_Stairs____init__ (mStar (mVar 2) mNil) = W at mk' ⊢
  have fg : ∀ x, FL.gFld "Stairs" "_corners" x = gFld "Stairs" "_corners" x := fun _ => rfl
  generalize gFld "Stairs" "_corners" = GF at f1 f2 fg ⊢
  simp [mk', f1, f2, FL.mStar, FL.seqD, hz, mC, mVar, mHs, mV, FL.m2, m2H, FL.m1, m1H, mNil, mCons, mMk, mTb, mTNot, mTAnd, mTOr, mTru, mAnd, mOr, mIf, mChain, sSeq, sNil, sIf, sRet, sDrop, sAsg, gSet, gSets, gUn, lentS_un, lentS_sh, lentS_owt, deref, gI, gB, gNeg, gNot, gTupD, gLstD, szOk, truD, cMod, cDiv, mkFn, mkFnO, endF, FL.cut, FL.cutS, mCall, mCallO, mCallK, sOwn, sRetO, sRetV, gIx, gDGet, keyD, getK, putKD, sDPutD, mDispN, mDicN, gAdd, gMul, gSl, mPn, mPs, mSl, cutA, HT.sIx, gMin2, gMax2, gList, gTuple, gLen, gIsi, isObjD, kindN, isiB, sForL, sForT, sForR, itemsD, rgOk, sPar, cond_true, cond_false, sizeLine_eq, sAppend, mPop]
theorem p_and {n m : Nat} {c d : List PP} (hc : Ok n c) (hd : Ok m d) (hn : n + m < 900) : F_Stairs____and__ [.sh (So c), .sh (So d)] = some (So (I c d), [.un, .un]) := by
  have eb : B_Stairs____and__ = (sSeq (sAsg (gSet 2) (mCall F__shared_pairs (mCons (m1H (gFld "Stairs" "_corners") (mHs 0)) (mCons (m1H (gFld "Stairs" "_corners") (mHs 1)) mNil)))) (sRet (mMakeS "Stairs" F_Stairs____init__ (mStar (mVar 2) mNil)))) := rfl
  obtain ⟨k1, k2⟩ := share_pr _ c d (Nat.le_refl _) hc.pr hd.pr
  have hl : (shareF c d).length < 900 := by have := hc.len; have := hd.len; omega
  have f1 := fld c
  have f2 := fld d
  have sh := p_share c d (by have := hc.len; omega) (by have := hd.len; omega)
  have mk' := p_make (shareF c d) hl k2 (fa := mStar (mVar 2) mNil) (e := [.sh (So c), .sh (So d), .sh (.lst ((shareF c d).map tupP))]) (e1 := [.sh (So c), .sh (So d), .sh (.lst ((shareF c d).map tupP))]) (by simp [FL.mStar, FL.seqD, mVar, mNil])
  unfold F_Stairs____and__ I
  rw [eb]
  generalize So (corn (shareF c d)) = R at mk' ⊢
  generalize So c = C at mk' f1 ⊢
  generalize So d = D' at mk' f2 ⊢
  generalize (shareF c d).map tupP = GS at mk' sh ⊢
  generalize c.map tupP = GC at sh f1 ⊢
  generalize d.map tupP = GD at sh f2 ⊢
  generalize mMakeS "Stairs" F_Stairs____init__ (mStar (mVar 2) mNil) = W at mk' ⊢
  generalize gFld "Stairs" "_corners" = GF at f1 f2 ⊢
  simp [mk', f1, f2, sh, mC, mVar, mHs, mV, FL.m2, m2H, FL.m1, m1H, mNil, mCons, mMk, mTb, mTNot, mTAnd, mTOr, mTru, mAnd, mOr, mIf, mChain, sSeq, sNil, sIf, sRet, sDrop, sAsg, gSet, gSets, gUn, lentS_un, lentS_sh, lentS_owt, deref, gI, gB, gNeg, gNot, gTupD, gLstD, szOk, truD, cMod, cDiv, mkFn, mkFnO, endF, FL.cut, FL.cutS, mCall, mCallO, mCallK, sOwn, sRetO, sRetV, gIx, gDGet, keyD, getK, putKD, sDPutD, mDispN, mDicN, gAdd, gMul, gSl, mPn, mPs, mSl, cutA, HT.sIx, gMin2, gMax2, gList, gTuple, gLen, gIsi, isObjD, kindN, isiB, sForL, sForT, sForR, itemsD, rgOk, sPar, cond_true, cond_false, sizeLine_eq, sAppend, mPop]
/-! ### with expressions -/
/-- an expression that gives a staircase and leaves all as it is -/
structure Ev (E : En) (f : M D) (n : Nat) (c : List PP) : Prop where
  ev : f E = some (So c, E)
  ok : Ok n c
theorem Ev.or {E : En} {f g : M D} {n m : Nat} {c d : List PP} (hf : Ev E f n c) (hg : Ev E g m d) (hn : n + m < 900) : Ev E (mOpO "Stairs" F_Stairs____or__ f g) (n + m) (U c d) := by
  refine ⟨?_, ok_U hf.ok hg.ok⟩
  have q := p_or hf.ok hg.ok hn
  have he := hf.ev
  have hg' := hg.ev
  unfold mOpO
  simp only [So] at q he hg' ⊢
  rw [he]
  simp only [hg']
  simp only [and_self, if_true, q]
theorem Ev.and {E : En} {f g : M D} {n m : Nat} {c d : List PP} (hf : Ev E f n c) (hg : Ev E g m d) (hn : n + m < 900) : Ev E (mOpO "Stairs" F_Stairs____and__ f g) (n + m) (I c d) := by
  refine ⟨?_, ok_I hf.ok hg.ok⟩
  have q := p_and hf.ok hg.ok hn
  have he := hf.ev
  have hg' := hg.ev
  unfold mOpO
  simp only [So] at q he hg' ⊢
  rw [he]
  simp only [hg']
  simp only [and_self, if_true, q]
theorem mCmp_so (n : Bool) (c : List PP) (d : D) (b : Bool) (e' : En) (fa fb : M D) (e e1 e2 : En) (h : fa e = some (So c, e1)) (h2 : fb e1 = some (d, e2)) (hr : rOk "Stairs" d = true) (q : F_Stairs____eq__ [.sh (So c), .sh d] = some (.bl b, e')) : mCmpX "Stairs" F_Stairs____eq__ n fa fb e = some (.bl (n != b), e2) := by
  unfold mCmpX
  rw [h]
  simp only [h2]
  simp only [So] at q ⊢
  simp only [hr, and_self, if_true, q]
theorem Ev.cmp {E : En} {f g : M D} {n m : Nat} {c d : List PP} (b : Bool) (hf : Ev E f n c) (hg : Ev E g m d) : mCmpX "Stairs" F_Stairs____eq__ b f g E = some (.bl (b != decide (c = d)), E) :=
  mCmp_so b c (So d) _ _ f g E E E hf.ev hg.ev rfl (p_eq c d)
theorem tb_bl {m : M D} {E e : En} {b : Bool} (h : m E = some (.bl b, e)) : mTb m E = some (b, e) := by unfold mTb; rw [h]
/-- != of the same -/
theorem Ev.ne {E : En} {f g : M D} {n m : Nat} {c d : List PP} (hf : Ev E f n c) (hg : Ev E g m d) (h : c = d) : mTb (mCmpX "Stairs" F_Stairs____eq__ true f g) E = some (false, E) := by
  have := hf.cmp true hg
  rw [decide_eq_true h] at this
  exact tb_bl this
theorem p_within {n m : Nat} {c d : List PP} (hc : Ok n c) (hd : Ok m d) (hn : n + m < 900) : F_Stairs__within [.sh (So c), .sh (So d)] = some (.bl (decide (I c d = c)), [.un, .un]) := by
  have eb : B_Stairs__within = (sRet (mCmpX "Stairs" F_Stairs____eq__ false (mOpO "Stairs" F_Stairs____and__ (mVar 0) (mVar 1)) (mVar 0))) := rfl
  have v0 : Ev [.sh (So c), .sh (So d)] (mVar 0) n c := ⟨rfl, hc⟩
  have v1 : Ev [.sh (So c), .sh (So d)] (mVar 1) m d := ⟨rfl, hd⟩
  have q := (v0.and v1 hn).cmp false v0
  have fb : ∀ b : Bool, (false != b) = b := fun b => by cases b <;> rfl
  rw [fb] at q
  unfold F_Stairs__within
  rw [eb]
  generalize mCmpX "Stairs" F_Stairs____eq__ false (mOpO "Stairs" F_Stairs____and__ (mVar 0) (mVar 1)) (mVar 0) = W at q ⊢
  generalize So c = C at q ⊢
  generalize So d = D' at q ⊢
  simp [q, mC, mVar, mHs, mV, FL.m2, m2H, FL.m1, m1H, mNil, mCons, mMk, mTb, mTNot, mTAnd, mTOr, mTru, mAnd, mOr, mIf, mChain, sSeq, sNil, sIf, sRet, sDrop, sAsg, gSet, gSets, gUn, lentS_un, lentS_sh, lentS_owt, deref, gI, gB, gNeg, gNot, gTupD, gLstD, szOk, truD, cMod, cDiv, mkFn, mkFnO, endF, FL.cut, FL.cutS, mCall, mCallO, mCallK, sOwn, sRetO, sRetV, gIx, gDGet, keyD, getK, putKD, sDPutD, mDispN, mDicN, gAdd, gMul, gSl, mPn, mPs, mSl, cutA, HT.sIx, gMin2, gMax2, gList, gTuple, gLen, gIsi, isObjD, kindN, isiB, sForL, sForT, sForR, itemsD, rgOk, sPar, cond_true, cond_false, sizeLine_eq, sAppend, mPop]
theorem Ev.within {E : En} {f g : M D} {n m : Nat} {c d : List PP} (hf : Ev E f n c) (hg : Ev E g m d) (hn : n + m < 900) : mMeth "Stairs" "within" F_Stairs__within f (mCons g mNil) E = some (.bl (decide (I c d = c)), E) := by
  have q := p_within hf.ok hg.ok hn
  have hm : mCons g mNil E = some ([So d], E) := by simp [mCons, mNil, hg.ev]
  have lk : ∀ z : D, List.lookup ("within" : Str) [(("_corners" : Str), z)] = none := fun z => by
    have h : (("within" : Str) == "_corners") = false := by decide +kernel
    simp only [List.lookup, h]
  have he := hf.ev
  unfold mMeth
  simp only [So] at q hm he ⊢
  rw [he]
  simp only [lk, and_self, if_true, hm, List.map_cons, List.map_nil, q]
end PL

namespace PL
open PySem PySem.Spec PyProof.Rows L2 FL
set_option maxRecDepth 100000
set_option maxHeartbeats 8000000
set_option linter.all false
/-! ### the text of a number -/
noncomputable def ts (i : Int) : Str := Str.ofString (toString i)
theorem tl_ts {i : Int} (h : 0 ≤ i) : TL.tl (ts i) = TL.numL i.toNat := by
  have e : i = ((i.toNat : Nat) : Int) := by omega
  have q := TL.tl_num i.toNat
  rw [← e] at q
  exact q
theorem numL_head : ∀ n : Nat, 0 < n → ∃ a r, TL.numL n = a :: r ∧ a ≠ 48 := by
  intro n
  induction n using Nat.strongRecOn with
  | _ n ih =>
    intro h
    by_cases c : n < 10
    · exact ⟨48 + n, [], TL.numL_lt c, by omega⟩
    · obtain ⟨a, r, e, ha⟩ := ih (n / 10) (by omega) (by omega)
      exact ⟨a, r ++ [48 + n % 10], by rw [TL.numL_step (by omega), e]; rfl, ha⟩
theorem ts_digit {i : Int} (h : 0 ≤ i) : Txt.isdigit (ts i) = true := by
  have d := TL.numL_digits i.toNat
  have e := tl_ts h
  unfold Txt.isdigit
  rw [Bool.and_eq_true]
  refine ⟨?_, ?_⟩
  · rw [TL.len_tl, e]
    have := TL.numL_ne i.toNat
    rw [decide_eq_true_eq]
    exact List.length_pos_iff.mpr this
  · rw [← Array.all_toList]
    show (TL.tl (ts i)).all Unicode.isDigit = true
    rw [e, List.all_eq_true]
    intro c hc
    have r := d c hc
    have key : ∀ c : Nat, c < 58 → 48 ≤ c → Unicode.isDigit c = true := by decide +kernel
    exact key c (by omega) (by omega)
theorem ts_ascii {i : Int} (h : 0 ≤ i) : Txt.isascii (ts i) = true := by
  have d := TL.numL_digits i.toNat
  have e := tl_ts h
  unfold Txt.isascii
  rw [← Array.all_toList]
  show (TL.tl (ts i)).all (fun c => decide (c < 128)) = true
  rw [e, List.all_eq_true]
  intro c hc
  have r := d c hc
  rw [decide_eq_true_eq]
  omega
theorem ts_zero {i : Int} (h : 0 ≤ i) : (ts i = Str.ofString "0") ↔ i = 0 := by
  constructor
  · intro z
    have e := tl_ts h
    rw [z] at e
    have e2 : TL.tl (Str.ofString "0") = TL.numL 0 := by rw [TL.numL_lt (by decide)]; decide +kernel
    rw [e2] at e
    have := TL.numL_inj e
    omega
  · intro z
    subst z
    rfl
theorem ts_starts {i : Int} (h : 0 < i) : Txt.startswith (ts i) (Str.ofString "0") = false := by
  obtain ⟨a, r, e, ha⟩ := numL_head i.toNat (by omega)
  have t := tl_ts (i := i) (by omega)
  rw [e] at t
  rw [Bool.eq_false_iff]
  intro z
  unfold Txt.startswith at z
  rw [Bool.and_eq_true] at z
  have z2 := z.2
  unfold PySem.Builtin.Str.subAt at z2
  have z3 := beq_iff_eq.mp z2
  have z4 := congrArg Array.toList z3
  have c1 : (Str.ofString "0").cps.toList = [48] := by decide +kernel
  have c2 : (Str.ofString "0").length = 1 := by decide +kernel
  rw [c1, c2, Array.toList_extract] at z4
  have t' : (ts i).cps.toList = a :: r := t
  rw [t'] at z4
  simp at z4
  exact ha z4
theorem ts_int {i : Int} (h : 0 ≤ i) (h2 : i.natAbs < 10 ^ 60) : PySem.intText? (ts i) = some i := by
  have e : i = ((i.toNat : Nat) : Int) := by omega
  have q := TL.int_num (n := i.toNat) (Nat.le_trans (TL.numL_len (k := 60) (by decide) (by omega)) (by decide))
  rw [← e] at q
  exact q
/-! ### the text of corners, split -/
theorem tp_join (p : PP) : tp p = Txt.join (Str.ofString " ") [ts p.1, ts p.2] := by
  rw [TL.join_eq]
  refine TL.ext_tl ?_
  rw [TL.tl_join]
  unfold tp ts
  rw [TL.tl_append, TL.tl_append, TL.tl_append]
  have e : TL.tl Str.empty = [] := rfl
  rw [e, List.nil_append, List.append_assoc]
  rfl
theorem free_ts {i : Int} (h : 0 ≤ i) {s : Nat} (hs : s < 48) : s ∉ TL.tl (ts i) := by
  rw [tl_ts h]
  exact TL.numL_free (.inl hs)
theorem split_tp {p : PP} (h : Pr p) : Txt.split (tp p) (Str.ofString " ") = [ts p.1, ts p.2] := by
  obtain ⟨h0, h1, _⟩ := h
  rw [tp_join]
  refine TL.split_join (s := 32) (S := []) (by decide +kernel) (by decide +kernel) (by simp) fun q hq => ?_
  simp only [List.mem_cons, List.not_mem_nil, or_false] at hq
  rcases hq with rfl | rfl
  · exact free_ts h0 (by decide)
  · exact free_ts (by omega) (by decide)
theorem free_tp {p : PP} (h : Pr p) : 44 ∉ TL.tl (tp p) := by
  obtain ⟨h0, h1, _⟩ := h
  unfold tp
  rw [TL.tl_append, TL.tl_append, TL.tl_append]
  intro z
  have e : TL.tl Str.empty = [] := rfl
  have e2 : TL.tl (Str.ofString " ") = [32] := by decide +kernel
  rw [e, e2] at z
  simp only [List.nil_append, List.mem_append, List.mem_cons, List.not_mem_nil, or_false] at z
  rcases z with (z | z) | z
  · exact free_ts h0 (by decide) z
  · cases z
  · exact free_ts (i := p.2) (by omega) (by decide) z
theorem split_txt {c : List PP} (hne : c ≠ []) (h : ∀ p ∈ c, Pr p) : Txt.split (txt c) (Str.ofString ", ") = c.map tp := by
  unfold txt
  refine TL.split_join (s := 44) (S := [32]) (by decide +kernel) (by decide +kernel) (by simpa using hne) fun q hq => ?_
  obtain ⟨p, hp, rfl⟩ := List.mem_map.mp hq
  exact free_tp (h p hp)
theorem txt_nil : txt [] = Str.ofString "" := by
  unfold txt
  rw [TL.join_eq]
  decide +kernel
theorem txt_ne {c : List PP} (hne : c ≠ []) (h : ∀ p ∈ c, Pr p) : txt c ≠ Str.ofString "" := by
  intro z
  have s := split_txt hne h
  rw [z] at s
  have e : Txt.split (Str.ofString "") (Str.ofString ", ") = [Str.ofString ""] := by decide +kernel
  rw [e] at s
  match c, hne, s with
  | [p], _, s =>
    have s2 : Str.ofString "" = tp p := by simpa using s
    have t := congrArg Str.length s2
    unfold tp at t
    rw [Str.length_append, Str.length_append, Str.length_append] at t
    have e2 : (Str.ofString " ").length = 1 := by decide +kernel
    have e3 : (Str.ofString "").length = 0 := by decide +kernel
    omega
  | _ :: _ :: _, _, s => simp at s
end PL

set_option Elab.async false
set_option linter.all false
set_option maxRecDepth 100000
set_option maxHeartbeats 4000000
namespace PL
open PySem PySem.Spec PyProof.Rows L2 FL
noncomputable def B__law_goods : FS := (sSeq (sParO 2 3 (mCallO F__law_one_of 0 (mCons (mLst (mCons (mC (.int 1)) (mCons (mC (.int 4)) (mCons (mC (.int 9)) (mCons (mC (.int 9)) (mCons (mPow (mC (.int 10)) (mC (.int 9))) mNil)))))) mNil)) (mMk gLstD mNil))
  (sSeq (sAsg (gSet 4) (mCallO F__law_one_of 0 (mCons (mLst (mCons (mC (.int 1)) (mCons (mC (.int 7)) (mCons (mC (.int 1000)) mNil)))) mNil)))
  (sSeq (sForR (mCons (mVar 1) mNil) (gSet 5) (sSeq (sAsg (gSet 6) (mCallO F__law_pick 0 (mCons (mC (.int 13)) mNil)))
  (sSeq (sAsg (gSet 7) (mAddA (mHs 6) (mV (mCallO F__law_pick 0 (mCons (mCallO F__law_one_of 0 (mCons (mLst (mCons (mC (.int 1)) (mCons (mC (.int 4)) (mCons (mC (.int 9)) mNil)))) mNil)) mNil)))))
  (sAppend 3 (mTup (mCons (mAddA (mV (mC (.int 1))) (mV (mMulA (mHs 4) (mHs 5)))) (mCons (mVar 6) (mCons (mVar 7) (mCons (mAddA (mV (mC (.int 1))) (mV (mCallO F__law_pick 0 (mCons (mVar 2) mNil)))) mNil)))))))))
  (sRet (mVar 3)))))
noncomputable def F__law_goods : Fn := mkFn 8 2 B__law_goods
noncomputable def B__law_more : FS := (sRet (mCompL (mVar 0) (gSet 2) mYes (mTup (mCons (m2H gIx (mHs 2) (mV (mC (.int 0)))) (mCons (m2H gIx (mHs 2) (mV (mC (.int 1)))) (mCons (m2H gIx (mHs 2) (mV (mC (.int 2)))) (mCons (mMulA (mV (mAddA (mV (mC (.int 1))) (mV (mMod (m2H gIx (mHs 2) (mV (mC (.int 3)))) (mC (.int 9)))))) (mHs 1)) mNil))))) [2]))
noncomputable def F__law_more : Fn := mkFn 3 2 B__law_more
noncomputable def B__days_of : FS := (sRet (mSortS (mVar 0) (gSet 1) (m2H gIx (mHs 1) (mV (mC (.int 1)))) [1]))
noncomputable def F__days_of : Fn := mkFn 2 1 B__days_of
noncomputable def B__keeps_of : FS := (sRet (mSortS (mVar 0) (gSet 1) (m2H gIx (mHs 1) (mV (mC (.int 2)))) [1]))
noncomputable def F__keeps_of : Fn := mkFn 2 1 B__keeps_of
noncomputable def B_with_amount : FS := (sSeq (sAsg (gUn [(gSet 2), (gSet 3), (gSet 4), (gSet 5)]) (mVar 0))
  (sRet (mTup (mCons (mVar 2) (mCons (mVar 3) (mCons (mVar 4) (mCons (mVar 1) mNil)))))))
noncomputable def F_with_amount : Fn := mkFn 6 2 B_with_amount
noncomputable def B__many_below : FS := (sSeq (sAsg (gSet 2) (mC (.int 0)))
  (sSeq (sAsg (gSet 3) (m1H gLen (mHs 0)))
  (sSeq (sWhile 100000 (mTb (mLt (mHs 2) (mHs 3))) (sSeq (sAsg (gSet 4) (mDiv (mAddA (mHs 2) (mHs 3)) (mC (.int 2))))
  (sIf (mTb (mLt (mV (m2H gIx (mHs 0) (mHs 4))) (mHs 1))) (sAsg (gSet 2) (mAddA (mHs 4) (mV (mC (.int 1))))) (sAsg (gSet 3) (mVar 4)))))
  (sRet (mVar 2)))))
noncomputable def F__many_below : Fn := mkFn 5 2 B__many_below
noncomputable def B__gains : FS := (sSeq (sAsg (gSet 2) (mCall F__days_of (mCons (mVar 1) mNil)))
  (sSeq (sAsg (gSet 3) (mCall F__keeps_of (mCons (mVar 1) mNil)))
  (sGains (mVar 3) (mAddA (mV (m1H gLen (mHs 2))) (mV (mC (.int 1)))) (mCompL (mVar 1) (gSet 12) mYes (mCall F_with_amount (mCons (mVar 12) (mCons (m1 gNeg (m2H gIx (mHs 12) (mV (mC (.int 3))))) mNil))) [12]) (mLst (mStar (mVar 0) (mStar (mVar 5) mNil))) (gUn ([6, 7, 8, 9].map gSet)) (mSub (mCall F__many_below (mCons (mVar 3) (mCons (mAddA (mHs 8) (mV (mC (.int 1)))) mNil))) (mC (.int 1))) (mAddA (mV (mCall F__many_below (mCons (mVar 2) (mCons (mVar 7) mNil)))) (mV (mC (.int 1)))) (mTAnd (mTb (mGe (mHs 10) (mV (mC (.int 0))))) (mTb (mLe (mHs 11) (mV (m1H gLen (mHs 2)))))) 8 4 5 10 11 9)))
noncomputable def F__gains : Fn := mkFn 13 2 B__gains
noncomputable def B__least_sums : FS := (sSeq (sAsg (gSet 2) (mCall F__gains (mCons (mVar 0) (mCons (mVar 1) mNil))))
  (sSeq (sOwn 3 (mMk gLstD (mCons (mMulA (mV (mLst (mCons (mC (.int 0)) mNil))) (mV (mAddA (mV (m1H gLen (mV (mCall F__days_of (mCons (mVar 1) mNil))))) (mV (mC (.int 1)))))) mNil)))
  (sSeq (sForL (mVar 2) (gSet 4) (sAcc 5 3 (m2H gIx (mHs 3) (mV (m1 gNeg (mC (.int 1))))) (mVar 4)))
  (sRet (mVar 3)))))
noncomputable def F__least_sums : Fn := mkFn 8 2 B__least_sums
noncomputable def B_least_stairs : FS := (sSeq (sAsg (gSet 2) (mCall F__days_of (mCons (mVar 1) mNil)))
  (sSeq (sAsg (gSet 3) (mCall F__keeps_of (mCons (mVar 1) mNil)))
  (sSeq (sAsg (gSet 4) (mCall F__least_sums (mCons (mVar 0) (mCons (mVar 1) mNil))))
  (sSeq (sOwn 5 (mMk gLstD mNil))
  (sSeq (sAsg (gSet 6) (m1H gLen (mHs 2)))
  (sSeq (sForRev (m1H gLen (mHs 3)) (gSet 7) (sSeq (sAsg (gSet 6) (m2 gIndex (m2H gIx (mHs 4) (mV (mAddA (mHs 7) (mV (mC (.int 1)))))) (m2H gIx (mV (m2H gIx (mHs 4) (mV (mAddA (mHs 7) (mV (mC (.int 1))))))) (mHs 6))))
  (sIf (mTb (mGt (mHs 6) (mV (mC (.int 0))))) (sAppend 5 (mTup (mCons (m2H gIx (mHs 2) (mV (mSub (mVar 6) (mC (.int 1))))) (mCons (m2H gIx (mHs 3) (mHs 7)) mNil)))) sNil)))
  (sRet (mMakeS "Stairs" F_Stairs____init__ (mStar (mVar 5) mNil)))))))))
noncomputable def F_least_stairs : Fn := mkFn 8 2 B_least_stairs
noncomputable def B_pair_of : FS := (sRet (mTup (mCons (m2H gIx (mHs 0) (mV (mC (.int 1)))) (mCons (m2H gIx (mHs 0) (mV (mC (.int 2)))) mNil))))
noncomputable def F_pair_of : Fn := mkFn 1 1 B_pair_of
noncomputable def B_supply : FS := (sRet (mMk gSumI (mCons (mCompL (mVar 0) (gSet 2) (mTb (mInO "Stairs" F_Stairs____contains__ (mCall F_pair_of (mCons (mVar 2) mNil)) (mVar 1))) (m2H gIx (mHs 2) (mV (mC (.int 3)))) [2]) mNil)))
noncomputable def F_supply : Fn := mkFn 3 2 B_supply
noncomputable def B_demand : FS := (sRet (mMk gSumI (mCons (mCompL (mVar 0) (gSet 2) (mTb (mInO "Stairs" F_Stairs____contains__ (mCall F_pair_of (mCons (mVar 2) mNil)) (mVar 1))) (m2H gIx (mHs 2) (mV (mC (.int 3)))) [2]) mNil)))
noncomputable def F_demand : Fn := mkFn 3 2 B_demand
noncomputable def B_surplus : FS := (sRet (mSub (mCall F_supply (mCons (mVar 0) (mCons (mVar 2) mNil))) (mCall F_demand (mCons (mVar 1) (mCons (mVar 2) mNil)))))
noncomputable def F_surplus : Fn := mkFn 3 3 B_surplus
noncomputable def B_great_wish : FS := (sRet (mTup (mCons (mC (.int 0)) (mCons (m2H gIx (mHs 1) (mV (mC (.int 0)))) (mCons (m2H gIx (mHs 1) (mV (mC (.int 1)))) (mCons (mAddA (mV (mMk gSumI (mCons (mCompL (mVar 0) (gSet 2) mYes (m2H gIx (mHs 2) (mV (mC (.int 3)))) [2]) mNil))) (mV (mC (.int 1)))) mNil))))))
noncomputable def F_great_wish : Fn := mkFn 3 2 B_great_wish
noncomputable def B_room_for : FS := (sSeq (sAsg (gSet 3) (mCall F_great_wish (mCons (mVar 0) (mCons (mVar 2) mNil))))
  (sRet (mAddA (mV (m2H gIx (mV (m2H gIx (mV (mCall F__least_sums (mCons (mVar 0) (mCons (mLst (mStar (mVar 1) (mCons (mVar 3) mNil))) mNil)))) (mV (m1 gNeg (mC (.int 1)))))) (mV (m1 gNeg (mC (.int 1)))))) (mV (m2H gIx (mHs 3) (mV (mC (.int 3))))))))
noncomputable def F_room_for : Fn := mkFn 4 3 B_room_for
noncomputable def B_room_stairs : FS := (sRet (mCall F_least_stairs (mCons (mVar 0) (mCons (mLst (mStar (mVar 1) (mCons (mCall F_great_wish (mCons (mVar 0) (mCons (mVar 2) mNil))) mNil))) mNil))))
noncomputable def F_room_stairs : Fn := mkFn 3 3 B_room_stairs
noncomputable def B__law_later : FS := (sRet (mCompL (mVar 0) (gSet 2) mYes (mTup (mCons (m2H gIx (mHs 2) (mV (mC (.int 0)))) (mCons (mAddA (mV (m2H gIx (mHs 2) (mV (mC (.int 1))))) (mHs 1)) (mCons (mAddA (mV (m2H gIx (mHs 2) (mV (mC (.int 2))))) (mHs 1)) (mCons (m2H gIx (mHs 2) (mV (mC (.int 3)))) mNil))))) [2]))
noncomputable def F__law_later : Fn := mkFn 3 2 B__law_later
noncomputable def B__law_pairs_later : FS := (sRet (mCompL (mVar 0) (gSet 2) mYes (mTup (mCons (mAddA (mV (m2H gIx (mHs 2) (mV (mC (.int 0))))) (mHs 1)) (mCons (mAddA (mV (m2H gIx (mHs 2) (mV (mC (.int 1))))) (mHs 1)) mNil))) [2]))
noncomputable def F__law_pairs_later : Fn := mkFn 3 2 B__law_pairs_later
noncomputable def B__law_within : FS := (sRet (mMk gSumI (mCons (mCompL (mVar 0) (gSet 2) (mTb (mCall F__law_has (mCons (mVar 1) (mCons (mTup (mCons (m2H gIx (mHs 2) (mV (mC (.int 1)))) (mCons (m2H gIx (mHs 2) (mV (mC (.int 2)))) mNil))) mNil)))) (m2H gIx (mHs 2) (mV (mC (.int 3)))) [2]) mNil)))
noncomputable def F__law_within : Fn := mkFn 3 2 B__law_within
noncomputable def B__law_left : FS := (sRet (mSub (mCall F__law_within (mCons (mVar 0) (mCons (mVar 2) mNil))) (mCall F__law_within (mCons (mVar 1) (mCons (mVar 2) mNil)))))
noncomputable def F__law_left : Fn := mkFn 3 3 B__law_left
noncomputable def B__law_sets : FS := (sSeq (sAsg (gSet 1) (mLst (mCons (mLst mNil) mNil)))
  (sSeq (sForL (mVar 0) (gSet 2) (sAsg (gSet 1) (mAddA (mHs 1) (mV (mCompL (mVar 1) (gSet 3) mYes (mAddA (mHs 3) (mV (mLst (mCons (mTup (mCons (m2H gIx (mHs 2) (mV (mC (.int 1)))) (mCons (m2H gIx (mHs 2) (mV (mC (.int 2)))) mNil))) mNil)))) [3])))))
  (sRet (mVar 1))))
noncomputable def F__law_sets : Fn := mkFn 4 1 B__law_sets
noncomputable def B__law_least : FS := (sSeq (sAsg (gUn [(gSet 3), (gSet 4)]) (mTup (mCons (mC .non) (mCons (mC .non) mNil))))
  (sSeq (sForL (mCall F__law_sets (mCons (mVar 1) mNil)) (gSet 5) (sSeq (sAsg (gSet 6) (mAddA (mHs 5) (mHs 2)))
  (sSeq (sAsg (gSet 7) (mCall F__law_left (mCons (mVar 0) (mCons (mVar 1) (mCons (mVar 6) mNil)))))
  (sIf (mTOr (mTb (m1H gIsN (mHs 3))) (mTb (mLt (mHs 7) (mHs 4)))) (sAsg (gUn [(gSet 3), (gSet 4)]) (mTup (mCons (mVar 6) (mCons (mVar 7) mNil)))) (sIf (mTb (m2H gEq (mHs 7) (mHs 4))) (sSeq (sOwn 8 (mCompL (mVar 6) (gSet 9) (mTNot (mTb (mCall F__law_has (mCons (mVar 3) (mCons (mVar 9) mNil))))) (mVar 9) [9]))
  (sIf (mTb (m2H gEq (mHs 8) (mV (mLst mNil)))) (sAsg (gSet 3) (mVar 6)) sNil)) sNil)))))
  (sRet (mTup (mCons (mVar 4) (mCons (mVar 3) mNil))))))
noncomputable def F__law_least : Fn := mkFn 10 3 B__law_least
noncomputable def B__law_rooms : FS := (sRet (mCompL (mVar 2) (gSet 3) mYes (mCall F_room_for (mCons (mVar 0) (mCons (mVar 1) (mCons (mVar 3) mNil)))) [3]))
noncomputable def F__law_rooms : Fn := mkFn 4 3 B__law_rooms
noncomputable def B__law_outside : FS := (sSeq (sAsg (gSet 2) (mCallO F__law_goods 0 (mCons (mC (.int 4)) mNil)))
  (sRet (mCompL (mVar 2) (gSet 3) (mTb (mInNO "Stairs" F_Stairs____contains__ (mTup (mCons (m2H gIx (mHs 3) (mV (mC (.int 1)))) (mCons (m2H gIx (mHs 3) (mV (mC (.int 2)))) mNil))) (mVar 1))) (mTup (mCons (mAddA (mV (mC (.int 70000))) (mV (m2H gIx (mHs 3) (mV (mC (.int 0)))))) (mCons (m2H gIx (mHs 3) (mV (mC (.int 1)))) (mCons (m2H gIx (mHs 3) (mV (mC (.int 2)))) (mCons (m2H gIx (mHs 3) (mV (mC (.int 3)))) mNil))))) [3])))
noncomputable def F__law_outside : Fn := mkFn 4 2 B__law_outside
noncomputable def B__law_fewer : FS := (sRet (mCompL (mVar 1) (gSet 3) (mTOr (mTb (mInO "Stairs" F_Stairs____contains__ (mTup (mCons (m2H gIx (mHs 3) (mV (mC (.int 1)))) (mCons (m2H gIx (mHs 3) (mV (mC (.int 2)))) mNil))) (mVar 2))) (mTb (m2H gEq (mV (mCallO F__law_pick 0 (mCons (mC (.int 2)) mNil))) (mV (mC (.int 0)))))) (mVar 3) [3]))
noncomputable def F__law_fewer : Fn := mkFn 4 3 B__law_fewer
end PL

set_option Elab.async false
set_option linter.all false
set_option maxRecDepth 100000
set_option maxHeartbeats 4000000
namespace K08
open PySem PySem.Spec PyProof.Rows L2 FL PL

def FirstBad (ds : List D) (k : Nat) : Prop := (∀ i d, i < k → ds[i]? = some d → F_is_pair [.sh d] = some (.bl true, [.un])) ∧ ∃ d, ds[k]? = some d ∧ F_is_pair [.sh d] = some (.bl false, [.un])
noncomputable def badOf : List D → Option D
  | [] => none
  | d :: r => bif chk (F_is_pair [.sh d] = some (.bl false, [.un])) then some d else (bif chk (F_is_pair [.sh d] = some (.bl true, [.un])) then badOf r else none)
theorem badOf_first : ∀ (ds : List D) (d : D), badOf ds = some d → ∃ k, FirstBad ds k ∧ ds[k]? = some d
  | [], d, h => by cases h
  | x :: r, d, h => by
    unfold badOf at h
    cases c : chk (F_is_pair [.sh x] = some (.bl false, [.un])) with
    | true =>
      rw [c] at h
      cases h
      exact ⟨0, ⟨fun i _ hi => absurd hi (Nat.not_lt_zero _), _, rfl, chk_of c⟩, rfl⟩
    | false =>
      rw [c] at h
      cases c2 : chk (F_is_pair [.sh x] = some (.bl true, [.un])) with
      | false => rw [c2] at h; cases h
      | true =>
        rw [c2] at h
        obtain ⟨k, ⟨h1, d', h2, h3⟩, h4⟩ := badOf_first r d h
        refine ⟨k + 1, ⟨fun i y hi hy => ?_, d', h2, h3⟩, h4⟩
        cases i with
        | zero => cases hy; exact chk_of c2
        | succ i => exact h1 i y (by omega) hy

noncomputable def F__law_refused : Fn := fun env => match env with
  | [.sh (.lst ds)] => (match badOf ds with
    | some d => if 1 ≤ ds.length ∧ ds.length ≤ 5 then some (.lst [d], [.un]) else none
    | none => none)
  | _ => none
noncomputable def B__law_pairs : FS := (sRetO (mCompR (mCons (mCallO F__law_pick 0 (mCons (mAddA (mHs 1) (mV (mC (.int 1)))) mNil)) mNil) (gSet 2) mYes (mCallO F__law_pair 0 mNil) [2]))
noncomputable def F__law_pairs : Fn := mkFnO 3 2 B__law_pairs
noncomputable def B__law_any : FS := (sSeq (sAsg (gSet 1) (mLst (mCons (mC .non) (mCons (mC (.bl true)) (mCons (mC (.int 0)) (mCons (mC (.int 5)) (mCons (mC (.str "")) (mCons (mC (.str "1 2")) (mCons (mTup mNil) (mCons (mTup (mCons (mC (.int 1)) mNil)) (mCons (mTup (mCons (mC (.int 1)) (mCons (mC (.int 2)) (mCons (mC (.int 3)) mNil)))) (mCons (mLst (mCons (mC (.int 1)) (mCons (mC (.int 2)) mNil))) (mCons (mDicN []) (mCons (mTup (mCons (mC (.bl true)) (mCons (mC (.int 2)) mNil))) (mCons (mTup (mCons (mC (.int 1)) (mCons (mC (.bl true)) mNil))) (mCons (mTup (mCons (mC (.int 2)) (mCons (mC (.int 1)) mNil))) (mCons (mTup (mCons (mC (.int 5)) (mCons (mC (.int 4)) mNil))) mNil)))))))))))))))))
  (sRet (mCallO F__law_one_of 0 (mCons (mAddA (mHs 1) (mV (mLst (mCons (mTup (mCons (m1 gNeg (mC (.int 1))) (mCons (mC (.int 3)) mNil))) (mCons (mTup (mCons (mC (.int 0)) (mCons (mAddA (mV (mPow (mC (.int 10)) (mC (.int 6)))) (mV (mC (.int 1)))) mNil))) (mCons (mTup (mCons (mC (.int 1)) (mCons (mC (.str "2")) mNil))) (mCons (mTup (mCons (mTup (mCons (mC (.int 1)) (mCons (mC (.int 2)) mNil))) mNil)) (mCons (mTup (mCons (mC .non) (mCons (mC (.int 3)) mNil))) (mCons (mTup (mCons (mLst (mCons (mC (.int 1)) mNil)) (mCons (mC (.int 2)) mNil))) (mCons (mLst (mCons (mLst mNil) mNil)) mNil)))))))))) mNil))))
noncomputable def F__law_any : Fn := mkFn 2 1 B__law_any
noncomputable def keptB : FS := (sRet (m2H gEq (mHs 3) (mV (mLst (mCons (mC (.int 1)) (mCons (mC (.int 2)) mNil))))))
noncomputable def S0 : FS := (sForR (mCons (mMk gMax2 (mCons (mC (.int 1)) (mCons (mMk gMin2 (mCons (mC (.int 4)) (mCons (m1H gLen (mHs 0)) mNil))) mNil))) mNil) (gSet 1) (sSeq (sOwn 4 (mCall F__law_tape (mCons (mVar 0) (mCons (mVar 1) mNil))))
  (sForR (mCons (mC (.int 6)) mNil) (gSet 5) (sSeq (sOwn 7 (mCallO F__law_pairs 4 (mCons (mC (.int 3)) mNil)))
  (sSeq (sPar [8, 9] (mCons (mCallO F__law_any 4 mNil) (mCons (mCallO F__law_any 4 mNil) mNil)))
  (sSeq (sAsg (gSet 10) (mCallO F__law_pick 4 (mCons (mAddA (mV (m1H gLen (mHs 7))) (mV (mC (.int 1)))) mNil)))
  (sSeq (sInsert 7 (mVar 10) (mVar 8))
  (sSeq (sIf (mTb (m2H gEq (mV (mCallO F__law_pick 4 (mCons (mC (.int 2)) mNil))) (mV (mC (.int 0))))) (sInsert 7 (mAddA (mHs 10) (mV (mC (.int 1)))) (mVar 9)) sNil)
  (sIf (mTb (m2H gNe (mV (m1H gRepr (mV (mCall F__law_refused (mCons (mVar 7) mNil))))) (mV (m1H gRepr (mV (mLst (mCons (mVar 8) mNil))))))) (sRet (mC (.bl false))) sNil)))))))))
noncomputable def F_law : Fn := fun env => match env with
  | [.sh d] => (match S0 ([.sh d] ++ List.replicate (11 - 1) Sl.un) with
    | some (.nx e) => bif decide (e.length = 11) then some (.bl true, [.un]) else none
    | _ => none)
  | _ => none
end K08

namespace K08
open PySem PySem.Spec PyProof.Rows L2 FL PL
set_option maxRecDepth 100000
set_option maxHeartbeats 8000000
set_option linter.all false
theorem len_v (ds : List D) (j : Int) : mTb (m2H gEq (mV (m1H gLen (mHs 0))) (mV (mC (.int j)))) [.sh (.lst ds)] = some (decide ((ds.length : Int) = j), [.sh (.lst ds)]) := by
  have e := eqI (ds.length : Int) j
  simp [mTb, m2H, mV, m1H, mHs, mC, deref, gLen, e, truD]
theorem len_no (ds : List D) (j : Int) (h : ¬ (ds.length : Int) = j) : mTb (m2H gEq (mV (m1H gLen (mHs 0))) (mV (mC (.int j)))) [.sh (.lst ds)] = some (false, [.sh (.lst ds)]) := by
  rw [len_v, decide_eq_false h]
theorem len_yes (ds : List D) (j : Int) (h : (ds.length : Int) = j) : mTb (m2H gEq (mV (m1H gLen (mHs 0))) (mV (mC (.int j)))) [.sh (.lst ds)] = some (true, [.sh (.lst ds)]) := by
  rw [len_v, decide_eq_true h]
noncomputable def at_ (j : Int) : M D := (m2H gIx (mHs 0) (mV (mC (.int j))))
theorem args1 (e : En) (d0 : D) (h : e = [.sh (.lst [d0])]) : mCons (m2H gIx (mHs 0) (mV (mC (.int 0)))) mNil e = some ([d0], [.sh (.lst [d0])]) := by subst h; rfl
theorem args2 (e : En) (d0 d1 : D) (h : e = [.sh (.lst [d0, d1])]) : mCons (m2H gIx (mHs 0) (mV (mC (.int 0)))) (mCons (m2H gIx (mHs 0) (mV (mC (.int 1)))) mNil) e = some ([d0, d1], [.sh (.lst [d0, d1])]) := by subst h; rfl
theorem args3 (e : En) (d0 d1 d2 : D) (h : e = [.sh (.lst [d0, d1, d2])]) : mCons (m2H gIx (mHs 0) (mV (mC (.int 0)))) (mCons (m2H gIx (mHs 0) (mV (mC (.int 1)))) (mCons (m2H gIx (mHs 0) (mV (mC (.int 2)))) mNil)) e = some ([d0, d1, d2], [.sh (.lst [d0, d1, d2])]) := by subst h; rfl
theorem args4 (e : En) (d0 d1 d2 d3 : D) (h : e = [.sh (.lst [d0, d1, d2, d3])]) : mCons (m2H gIx (mHs 0) (mV (mC (.int 0)))) (mCons (m2H gIx (mHs 0) (mV (mC (.int 1)))) (mCons (m2H gIx (mHs 0) (mV (mC (.int 2)))) (mCons (m2H gIx (mHs 0) (mV (mC (.int 3)))) mNil))) e = some ([d0, d1, d2, d3], [.sh (.lst [d0, d1, d2, d3])]) := by subst h; rfl
theorem args5 (e : En) (d0 d1 d2 d3 d4 : D) (h : e = [.sh (.lst [d0, d1, d2, d3, d4])]) : mCons (m2H gIx (mHs 0) (mV (mC (.int 0)))) (mCons (m2H gIx (mHs 0) (mV (mC (.int 1)))) (mCons (m2H gIx (mHs 0) (mV (mC (.int 2)))) (mCons (m2H gIx (mHs 0) (mV (mC (.int 3)))) (mCons (m2H gIx (mHs 0) (mV (mC (.int 4)))) mNil)))) e = some ([d0, d1, d2, d3, d4], [.sh (.lst [d0, d1, d2, d3, d4])]) := by subst h; rfl
theorem bad_own : FirstBad [.tup [.int 0, .int 0], .lst [.int 1]] 1 := by
  refine ⟨fun i d hi hd => ?_, .lst [.int 1], rfl, ?_⟩
  · obtain rfl : i = 0 := by omega
    cases hd
    exact is_pair_tup (p := (0, 0)) (by simp [Pr])
  · rw [f_is_pair _ (by simp [pl2])]; rfl
theorem kept_eq : ∃ e, keptB [.un, .un, .un, .sh (.lst [.int 1, .int 2]), .un, .un, .un, .un, .un, .un, .un] = some (.rt (.bl true) e) := by
  have e : gEq (.lst [.int 1, .int 2]) (.lst [.int 1, .int 2]) = some (.bl true) := by
    have o : okD true (.lst [.int 1, .int 2]) = true := by simp [okD, okDs]
    have dp : dpD (.lst [.int 1, .int 2]) ≤ 64 := by simp [dpD, dpDs]
    rw [gEq_ok true o o dp dp, FL.same_self]
  refine ⟨[.un, .un, .un, .sh (.lst [.int 1, .int 2]), .un, .un, .un, .un, .un, .un, .un], ?_⟩
  unfold keptB
  simp [e, mC, mVar, mHs, mV, FL.m2, m2H, FL.m1, m1H, mNil, mCons, mMk, mTb, mTNot, mTAnd, mTOr, mTru, mAnd, mOr, mIf, mChain, sSeq, sNil, sIf, sRet, sDrop, sAsg, gSet, gSets, gUn, lentS_un, lentS_sh, lentS_owt, deref, gI, gB, gNeg, gNot, gTupD, gLstD, szOk, truD, cMod, cDiv, mkFn, mkFnO, endF, FL.cut, FL.cutS, mCall, mCallO, mCallK, sOwn, sRetO, sRetV, gIx, gDGet, keyD, getK, putKD, sDPutD, mDispN, mDicN, gAdd, gMul, gSl, mPn, mPs, mSl, cutA, HT.sIx, gMin2, gMax2, gList, gTuple, gLen, gIsi, isObjD, kindN, isiB, sForL, sForT, sForR, itemsD, rgOk, sPar, cond_true, cond_false, sizeLine_eq, sAppend, mPop]
end K08

namespace K08
open PySem PySem.Spec PyProof.Rows L2 FL PL
set_option maxRecDepth 100000
set_option maxHeartbeats 8000000
set_option linter.all false
def odds : List D := [.non, .bl true, .int 0, .int 5, .str "", .str "1 2", .tup [], .tup [.int 1], .tup [.int 1, .int 2, .int 3], .lst [.int 1, .int 2], .dic [], .tup [.bl true, .int 2], .tup [.int 1, .bl true], .tup [.int 2, .int 1], .tup [.int 5, .int 4],
  .tup [.int (-1), .int 3], .tup [.int 0, .int 1000001], .tup [.int 1, .str "2"], .tup [.tup [.int 1, .int 2]], .tup [.non, .int 3], .tup [.lst [.int 1], .int 2], .lst [.lst []]]
def Odd (x : D) : Prop := F_is_pair [.sh x] = some (.bl false, [.un]) ∧ gRepr (.lst [x]) = some (.str (shT (.lst [x])))
theorem odds_no : ∀ x ∈ odds, pl2 x ∧ pr x = false := by
  intro x hx
  simp only [odds, List.mem_cons, List.not_mem_nil, or_false] at hx
  rcases hx with rfl | rfl | rfl | rfl | rfl | rfl | rfl | rfl | rfl | rfl | rfl | rfl | rfl | rfl | rfl | rfl | rfl | rfl | rfl | rfl | rfl | rfl <;> refine ⟨?_, ?_⟩ <;> simp [pl2, pl, pr, bt, leI]
theorem odds_rp : ∀ x ∈ odds, Rp (.lst [x]) := by
  intro x hx
  simp only [odds, List.mem_cons, List.not_mem_nil, or_false] at hx
  rcases hx with rfl | rfl | rfl | rfl | rfl | rfl | rfl | rfl | rfl | rfl | rfl | rfl | rfl | rfl | rfl | rfl | rfl | rfl | rfl | rfl | rfl | rfl <;> refine ⟨?_, ?_, ?_⟩ <;> first | decide +kernel | (simp [smD, smDs]; try decide +kernel) | (simp [bkD, bkDs]; try decide +kernel) | (simp [dpD, dpDs]; try decide +kernel)
theorem odd_of {x : D} (h : x ∈ odds) : Odd x := ⟨by rw [f_is_pair x (odds_no x h).1, (odds_no x h).2], rp_ok (odds_rp x h)⟩
theorem any_ (d m : Int) (ok : SackOk d m) : ∃ x d' m', F__law_any [.ow false (Sack d m)] = some (x, [.ow false (Sack d' m')]) ∧ Odd x ∧ SackOk d' m' := by
  obtain ⟨x, d', m', q, hx, ok'⟩ := chooses d m odds ok (by simp [odds]) (by simp [odds])
  refine ⟨x, d', m', ?_, odd_of hx, ok'⟩
  unfold odds at q
  simp [F__law_any, B__law_any, q, p6, mC, mVar, mHs, mV, FL.m2, m2H, FL.m1, m1H, mNil, mCons, mMk, mTb, mTNot, mTAnd, mTOr, mTru, mAnd, mOr, mIf, mChain, sSeq, sNil, sIf, sRet, sDrop, sAsg, gSet, gSets, gUn, lentS_un, lentS_sh, lentS_owt, deref, gI, gB, gNeg, gNot, gTupD, gLstD, szOk, truD, cMod, cDiv, mkFn, mkFnO, endF, FL.cut, FL.cutS, mCall, mCallO, mCallK, sOwn, sRetO, sRetV, gIx, gDGet, keyD, getK, putKD, sDPutD, mDispN, mDicN, gAdd, gMul, gSl, mPn, mPs, mSl, cutA, HT.sIx, gMin2, gMax2, gList, gTuple, gLen, gIsi, isObjD, kindN, isiB, sForL, sForT, sForR, itemsD, rgOk, sPar, cond_true, cond_false, sizeLine_eq, sAppend, mPop]
theorem pairs3 (d m : Int) (ok : SackOk d m) : ∃ (ps : List (Int × Int)) (d' m' : Int), F__law_pairs [.ow false (Sack d m), .sh (.int 3)] = some (.lst (ps.map tupP), [.ow false (Sack d' m'), .un]) ∧ ps.length ≤ 3 ∧ (∀ p ∈ ps, Pr p) ∧ SackOk d' m' := by
  obtain ⟨r, d1, m1, q1, a1, b1, ok⟩ := draws d m 4 ok (by decide) (by decide)
  obtain ⟨ps, d2, m2, q2, hl, hps, ok⟩ := pairsC 3 (upTo r.toNat) d1 m1 ok
  have hl5 : ps.length ≤ 3 := by
    rw [hl]; unfold FL.upTo; simp; omega
  have hr1 : -4611686018427387904 ≤ r := by omega
  have hr2 : r < 4611686018427387904 := by omega
  have hc : cLen ps.length = true := by unfold cLen; simp; omega
  refine ⟨ps, d2, m2, ?_, hl5, hps, ok⟩
  simp [F__law_pairs, B__law_pairs, mCompR, q1, q2, hr1, hr2, hc, mC, mVar, mHs, mV, FL.m2, m2H, FL.m1, m1H, mNil, mCons, mMk, mTb, mTNot, mTAnd, mTOr, mTru, mAnd, mOr, mIf, mChain, sSeq, sNil, sIf, sRet, sDrop, sAsg, gSet, gSets, gUn, lentS_un, lentS_sh, lentS_owt, deref, gI, gB, gNeg, gNot, gTupD, gLstD, szOk, truD, cMod, cDiv, mkFn, mkFnO, endF, FL.cut, FL.cutS, mCall, mCallO, mCallK, sOwn, sRetO, sRetV, gIx, gDGet, keyD, getK, putKD, sDPutD, mDispN, mDicN, gAdd, gMul, gSl, mPn, mPs, mSl, cutA, HT.sIx, gMin2, gMax2, gList, gTuple, gLen, gIsi, isObjD, kindN, isiB, sForL, sForT, sForR, itemsD, rgOk, sPar, cond_true, cond_false, sizeLine_eq, sAppend, mPop]
theorem chk_no {p : Prop} (h : ¬ p) : chk p = false := @decide_eq_false p (Classical.propDecidable p) h
theorem bad_at {x : D} (hx : Odd x) (r : List D) : ∀ ps : List PP, (∀ p ∈ ps, Pr p) → badOf (ps.map tupP ++ x :: r) = some x
  | [], _ => by
    show badOf (x :: r) = _
    unfold badOf
    rw [chk_yes hx.1]
    rfl
  | p :: ps, h => by
    show badOf (tupP p :: (ps.map tupP ++ x :: r)) = _
    unfold badOf
    have e := is_pair_tup (h p List.mem_cons_self)
    rw [chk_no (by rw [e]; exact fun z => by cases z), chk_yes e]
    exact bad_at hx r ps fun p hp => h p (List.mem_cons_of_mem _ hp)
theorem refused {l : List D} {x : D} (hb : badOf l = some x) (h1 : 1 ≤ l.length) (h5 : l.length ≤ 5) : F__law_refused [.sh (.lst l)] = some (.lst [x], [.un]) := by
  unfold F__law_refused
  simp only [hb]
  rw [if_pos ⟨h1, h5⟩]
noncomputable def o1 : FS := (sOwn 7 (mCallO F__law_pairs 4 (mCons (mC (.int 3)) mNil)))
noncomputable def o2 : FS := (sPar [8, 9] (mCons (mCallO F__law_any 4 mNil) (mCons (mCallO F__law_any 4 mNil) mNil)))
noncomputable def o3 : FS := (sAsg (gSet 10) (mCallO F__law_pick 4 (mCons (mAddA (mV (m1H gLen (mHs 7))) (mV (mC (.int 1)))) mNil)))
noncomputable def o4 : FS := (sInsert 7 (mVar 10) (mVar 8))
noncomputable def o5 : FS := (sIf (mTb (m2H gEq (mV (mCallO F__law_pick 4 (mCons (mC (.int 2)) mNil))) (mV (mC (.int 0))))) (sInsert 7 (mAddA (mHs 10) (mV (mC (.int 1)))) (mVar 9)) sNil)
noncomputable def o6 : FS := (sIf (mTb (m2H gNe (mV (m1H gRepr (mV (mCall F__law_refused (mCons (mVar 7) mNil))))) (mV (m1H gRepr (mV (mLst (mCons (mVar 8) mNil))))))) (sRet (mC (.bl false))) sNil)
noncomputable def bT : FS := (sSeq o1 (sSeq o2 (sSeq o3 (sSeq o4 (sSeq o5 o6)))))
noncomputable def b1 : FS := (sSeq (sOwn 4 (mCall F__law_tape (mCons (mVar 0) (mCons (mVar 1) mNil)))) (sForR (mCons (mC (.int 6)) mNil) (gSet 5) bT))
theorem eS : S0 = (sForR (mCons (mMk gMax2 (mCons (mC (.int 1)) (mCons (mMk gMin2 (mCons (mC (.int 4)) (mCons (m1H gLen (mHs 0)) mNil))) mNil))) mNil) (gSet 1) b1) := rfl
section
variable (sc st x5 x7 x8 x9 x10 : Sl)
theorem q1 (d m : Int) (ok : SackOk d m) (h7 : lentS x7 = false) : ∃ (ps : List PP) (d' m' : Int), o1 [sc, st, .un, .un, .ow true (Sack d m), x5, .un, x7, x8, x9, x10] = some (.nx [sc, st, .un, .un, .ow true (Sack d' m'), x5, .un, .ow true (.lst (ps.map tupP)), x8, x9, x10]) ∧ ps.length ≤ 3 ∧ (∀ p ∈ ps, Pr p) ∧ SackOk d' m' := by
  obtain ⟨ps, d', m', q, hl, hp, ok'⟩ := pairs3 d m ok
  refine ⟨ps, d', m', ?_, hl, hp, ok'⟩
  generalize ps.map tupP = G at q ⊢
  simp [o1, q, h7, mC, mVar, mHs, mV, FL.m2, m2H, FL.m1, m1H, mNil, mCons, mMk, mTb, mTNot, mTAnd, mTOr, mTru, mAnd, mOr, mIf, mChain, sSeq, sNil, sIf, sRet, sDrop, sAsg, gSet, gSets, gUn, lentS_un, lentS_sh, lentS_owt, deref, gI, gB, gNeg, gNot, gTupD, gLstD, szOk, truD, cMod, cDiv, mkFn, mkFnO, endF, FL.cut, FL.cutS, mCall, mCallO, mCallK, sOwn, sRetO, sRetV, gIx, gDGet, keyD, getK, putKD, sDPutD, mDispN, mDicN, gAdd, gMul, gSl, mPn, mPs, mSl, cutA, HT.sIx, gMin2, gMax2, gList, gTuple, gLen, gIsi, isObjD, kindN, isiB, sForL, sForT, sForR, itemsD, rgOk, sPar, cond_true, cond_false, sizeLine_eq, sAppend, mPop]
theorem q2 (d m : Int) (ok : SackOk d m) (h8 : lentS x8 = false) (h9 : lentS x9 = false) : ∃ (x y : D) (d' m' : Int), o2 [sc, st, .un, .un, .ow true (Sack d m), x5, .un, x7, x8, x9, x10] = some (.nx [sc, st, .un, .un, .ow true (Sack d' m'), x5, .un, x7, .sh x, .sh y, x10]) ∧ Odd x ∧ Odd y ∧ SackOk d' m' := by
  obtain ⟨x, d1, m1, qa, hx, ok1⟩ := any_ d m ok
  obtain ⟨y, d2, m2, qb, hy, ok2⟩ := any_ d1 m1 ok1
  refine ⟨x, y, d2, m2, ?_, hx, hy, ok2⟩
  simp [o2, qa, qb, h8, h9, mC, mVar, mHs, mV, FL.m2, m2H, FL.m1, m1H, mNil, mCons, mMk, mTb, mTNot, mTAnd, mTOr, mTru, mAnd, mOr, mIf, mChain, sSeq, sNil, sIf, sRet, sDrop, sAsg, gSet, gSets, gUn, lentS_un, lentS_sh, lentS_owt, deref, gI, gB, gNeg, gNot, gTupD, gLstD, szOk, truD, cMod, cDiv, mkFn, mkFnO, endF, FL.cut, FL.cutS, mCall, mCallO, mCallK, sOwn, sRetO, sRetV, gIx, gDGet, keyD, getK, putKD, sDPutD, mDispN, mDicN, gAdd, gMul, gSl, mPn, mPs, mSl, cutA, HT.sIx, gMin2, gMax2, gList, gTuple, gLen, gIsi, isObjD, kindN, isiB, sForL, sForT, sForR, itemsD, rgOk, sPar, cond_true, cond_false, sizeLine_eq, sAppend, mPop]
theorem q3 (L : List D) (hL : L.length ≤ 3) (d m : Int) (ok : SackOk d m) (h10 : lentS x10 = false) : ∃ (a : Nat) (d' m' : Int), o3 [sc, st, .un, .un, .ow true (Sack d m), x5, .un, .ow true (.lst L), x8, x9, x10] = some (.nx [sc, st, .un, .un, .ow true (Sack d' m'), x5, .un, .ow true (.lst L), x8, x9, .sh (.int (a : Int))]) ∧ a ≤ L.length ∧ SackOk d' m' := by
  obtain ⟨r, d1, m1, q, a1, b1, ok1⟩ := draws d m ((L.length : Int) + 1) ok (by omega) (by omega)
  obtain ⟨a, rfl⟩ : ∃ a : Nat, r = (a : Int) := ⟨r.toNat, by omega⟩
  refine ⟨a, d1, m1, ?_, by omega, ok1⟩
  simp [o3, q, h10, mC, mVar, mHs, mV, FL.m2, m2H, FL.m1, m1H, mNil, mCons, mMk, mTb, mTNot, mTAnd, mTOr, mTru, mAnd, mOr, mIf, mChain, sSeq, sNil, sIf, sRet, sDrop, sAsg, gSet, gSets, gUn, lentS_un, lentS_sh, lentS_owt, deref, gI, gB, gNeg, gNot, gTupD, gLstD, szOk, truD, cMod, cDiv, mkFn, mkFnO, endF, FL.cut, FL.cutS, mCall, mCallO, mCallK, sOwn, sRetO, sRetV, gIx, gDGet, keyD, getK, putKD, sDPutD, mDispN, mDicN, gAdd, gMul, gSl, mPn, mPs, mSl, cutA, HT.sIx, gMin2, gMax2, gList, gTuple, gLen, gIsi, isObjD, kindN, isiB, sForL, sForT, sForR, itemsD, rgOk, sPar, cond_true, cond_false, sizeLine_eq, sAppend, mPop]
end
theorem ins_take (G : List D) (x : D) (a : Nat) (h : a ≤ G.length) : (G.take a ++ x :: G.drop a).take (a + 1) = G.take a ++ [x] ∧ (G.take a ++ x :: G.drop a).drop (a + 1) = G.drop a := by
  have hl : (G.take a).length = a := by simp [Nat.min_eq_left h]
  constructor
  · rw [List.take_append, hl]
    simp [Nat.min_eq_left h, List.take_take]
  · rw [List.drop_append, hl]
    simp
    omega
section
variable (sc st x5 : Sl) (x y : D)
theorem q4 (G : List D) (hG : G.length ≤ 3) (a : Nat) (ha : a ≤ G.length) (d m : Int) : o4 [sc, st, .un, .un, .ow true (Sack d m), x5, .un, .ow true (.lst G), .sh x, .sh y, .sh (.int (a : Int))] = some (.nx [sc, st, .un, .un, .ow true (Sack d m), x5, .un, .ow true (.lst (G.take a ++ x :: G.drop a)), .sh x, .sh y, .sh (.int (a : Int))]) := by
  have l1 : G.length < 1000000 := by omega
  have l2 : (a : Int) < 1000000 := by omega
  simp [o4, sInsert, mVar, l1, l2]
theorem q5 (G : List D) (hG : G.length ≤ 3) (a : Nat) (ha : a ≤ G.length) (d m : Int) (ok : SackOk d m) : ∃ (r : List D) (d' m' : Int), o5 [sc, st, .un, .un, .ow true (Sack d m), x5, .un, .ow true (.lst (G.take a ++ x :: G.drop a)), .sh x, .sh y, .sh (.int (a : Int))] = some (.nx [sc, st, .un, .un, .ow true (Sack d' m'), x5, .un, .ow true (.lst (G.take a ++ x :: r)), .sh x, .sh y, .sh (.int (a : Int))]) ∧ r.length ≤ (G.drop a).length + 1 ∧ SackOk d' m' := by
  obtain ⟨r, d1, m1, q, a1, b1, ok1⟩ := draws d m 2 ok (by decide) (by decide)
  obtain ⟨it, id⟩ := ins_take G x a ha
  have hll : (G.take a ++ x :: G.drop a).length < 1000000 := by simp; omega
  have e0 := eqI r 0
  by_cases hr : r = 0
  · refine ⟨y :: G.drop a, d1, m1, ?_, by simp, ok1⟩
    rw [decide_eq_true hr] at e0
    have n1 : ((a : Int) + 1).toNat = a + 1 := by omega
    have ev : sInsert 7 (mAddA (mHs 10) (mV (mC (.int 1)))) (mVar 9) [sc, st, .un, .un, .ow true (Sack d1 m1), x5, .un, .ow true (.lst (G.take a ++ x :: G.drop a)), .sh x, .sh y, .sh (.int (a : Int))] = some (.nx [sc, st, .un, .un, .ow true (Sack d1 m1), x5, .un, .ow true (.lst (G.take a ++ x :: (y :: G.drop a))), .sh x, .sh y, .sh (.int (a : Int))]) := by
      have fin : (G.take a ++ x :: G.drop a).take ((a : Int) + 1).toNat ++ [y] ++ (G.take a ++ x :: G.drop a).drop ((a : Int) + 1).toNat = G.take a ++ x :: (y :: G.drop a) := by
        rw [n1, it, id]
        simp
      have g1 : 0 ≤ (a : Int) + 1 := by omega
      have g2 : (a : Int) + 1 < 1000000 := by omega
      rw [← fin]
      generalize G.take a ++ x :: G.drop a = W at hll ⊢
      simp [sInsert, hll, g1, g2, mC, mVar, mHs, mV, FL.m2, m2H, FL.m1, m1H, mNil, mCons, mMk, mTb, mTNot, mTAnd, mTOr, mTru, mAnd, mOr, mIf, mChain, sSeq, sNil, sIf, sRet, sDrop, sAsg, gSet, gSets, gUn, lentS_un, lentS_sh, lentS_owt, deref, gI, gB, gNeg, gNot, gTupD, gLstD, szOk, truD, cMod, cDiv, mkFn, mkFnO, endF, FL.cut, FL.cutS, mCall, mCallO, mCallK, sOwn, sRetO, sRetV, gIx, gDGet, keyD, getK, putKD, sDPutD, mDispN, mDicN, gAdd, gMul, gSl, mPn, mPs, mSl, cutA, HT.sIx, gMin2, gMax2, gList, gTuple, gLen, gIsi, isObjD, kindN, isiB, sForL, sForT, sForR, itemsD, rgOk, sPar, cond_true, cond_false, sizeLine_eq, sAppend, mPop]
    have tt : mTb (m2H gEq (mV (mCallO F__law_pick 4 (mCons (mC (.int 2)) mNil))) (mV (mC (.int 0)))) [sc, st, .un, .un, .ow true (Sack d m), x5, .un, .ow true (.lst (G.take a ++ x :: G.drop a)), .sh x, .sh y, .sh (.int (a : Int))] = some (true, [sc, st, .un, .un, .ow true (Sack d1 m1), x5, .un, .ow true (.lst (G.take a ++ x :: G.drop a)), .sh x, .sh y, .sh (.int (a : Int))]) := by
      generalize G.take a ++ x :: G.drop a = W
      simp [q, e0, mC, mVar, mHs, mV, FL.m2, m2H, FL.m1, m1H, mNil, mCons, mMk, mTb, mTNot, mTAnd, mTOr, mTru, mAnd, mOr, mIf, mChain, sSeq, sNil, sIf, sRet, sDrop, sAsg, gSet, gSets, gUn, lentS_un, lentS_sh, lentS_owt, deref, gI, gB, gNeg, gNot, gTupD, gLstD, szOk, truD, cMod, cDiv, mkFn, mkFnO, endF, FL.cut, FL.cutS, mCall, mCallO, mCallK, sOwn, sRetO, sRetV, gIx, gDGet, keyD, getK, putKD, sDPutD, mDispN, mDicN, gAdd, gMul, gSl, mPn, mPs, mSl, cutA, HT.sIx, gMin2, gMax2, gList, gTuple, gLen, gIsi, isObjD, kindN, isiB, sForL, sForT, sForR, itemsD, rgOk, sPar, cond_true, cond_false, sizeLine_eq, sAppend, mPop]
    unfold o5
    rw [if_yes tt]
    exact ev
  · refine ⟨G.drop a, d1, m1, ?_, by omega, ok1⟩
    rw [decide_eq_false hr] at e0
    generalize G.take a ++ x :: G.drop a = W
    simp [o5, q, e0, mC, mVar, mHs, mV, FL.m2, m2H, FL.m1, m1H, mNil, mCons, mMk, mTb, mTNot, mTAnd, mTOr, mTru, mAnd, mOr, mIf, mChain, sSeq, sNil, sIf, sRet, sDrop, sAsg, gSet, gSets, gUn, lentS_un, lentS_sh, lentS_owt, deref, gI, gB, gNeg, gNot, gTupD, gLstD, szOk, truD, cMod, cDiv, mkFn, mkFnO, endF, FL.cut, FL.cutS, mCall, mCallO, mCallK, sOwn, sRetO, sRetV, gIx, gDGet, keyD, getK, putKD, sDPutD, mDispN, mDicN, gAdd, gMul, gSl, mPn, mPs, mSl, cutA, HT.sIx, gMin2, gMax2, gList, gTuple, gLen, gIsi, isObjD, kindN, isiB, sForL, sForT, sForR, itemsD, rgOk, sPar, cond_true, cond_false, sizeLine_eq, sAppend, mPop]
theorem q6 (l : List D) (hx : Odd x) (hb : badOf l = some x) (h1 : 1 ≤ l.length) (h5 : l.length ≤ 5) (x10 : Sl) (d m : Int) : o6 [sc, st, .un, .un, .ow true (Sack d m), x5, .un, .ow true (.lst l), .sh x, .sh y, x10] = some (.nx [sc, st, .un, .un, .ow true (Sack d m), x5, .un, .sh (.lst l), .sh x, .sh y, x10]) := by
  have q := refused hb h1 h5
  have r := hx.2
  simp [o6, q, r, FL.ne_same, mC, mVar, mHs, mV, FL.m2, m2H, FL.m1, m1H, mNil, mCons, mMk, mTb, mTNot, mTAnd, mTOr, mTru, mAnd, mOr, mIf, mChain, sSeq, sNil, sIf, sRet, sDrop, sAsg, gSet, gSets, gUn, lentS_un, lentS_sh, lentS_owt, deref, gI, gB, gNeg, gNot, gTupD, gLstD, szOk, truD, cMod, cDiv, mkFn, mkFnO, endF, FL.cut, FL.cutS, mCall, mCallO, mCallK, sOwn, sRetO, sRetV, gIx, gDGet, keyD, getK, putKD, sDPutD, mDispN, mDicN, gAdd, gMul, gSl, mPn, mPs, mSl, cutA, HT.sIx, gMin2, gMax2, gList, gTuple, gLen, gIsi, isObjD, kindN, isiB, sForL, sForT, sForR, itemsD, rgOk, sPar, cond_true, cond_false, sizeLine_eq, sAppend, mPop]
end
theorem turn (ns : List Int) (st : Sl) (t : Int) (d m : Int) (ok : SackOk d m) (x7 x8 x9 x10 : Sl) (h7 : lentS x7 = false) (h8 : lentS x8 = false) (h9 : lentS x9 = false) (h10 : lentS x10 = false) : ∃ (l : List D) (x y : D) (a : Int) (d' m' : Int), bT [.sh (.scr ns), st, .un, .un, .ow true (Sack d m), .sh (.int t), .un, x7, x8, x9, x10] = some (.nx [.sh (.scr ns), st, .un, .un, .ow true (Sack d' m'), .sh (.int t), .un, .sh (.lst l), .sh x, .sh y, .sh (.int a)]) ∧ SackOk d' m' := by
  obtain ⟨ps, d1, m1, e1, hl, hp, ok1⟩ := q1 (.sh (.scr ns)) st (.sh (.int t)) x7 x8 x9 x10 d m ok h7
  obtain ⟨x, y, d2, m2, e2, hx, hy, ok2⟩ := q2 (.sh (.scr ns)) st (.sh (.int t)) (.ow true (.lst (ps.map tupP))) x8 x9 x10 d1 m1 ok1 h8 h9
  have hG : (ps.map tupP).length ≤ 3 := by simpa using hl
  obtain ⟨a, d3, m3, e3, ha, ok3⟩ := q3 (.sh (.scr ns)) st (.sh (.int t)) (.sh x) (.sh y) x10 (ps.map tupP) hG d2 m2 ok2 h10
  have e4 := q4 (.sh (.scr ns)) st (.sh (.int t)) x y (ps.map tupP) hG a ha d3 m3
  obtain ⟨r, d5, m5, e5, hr, ok5⟩ := q5 (.sh (.scr ns)) st (.sh (.int t)) x y (ps.map tupP) hG a ha d3 m3 ok3
  have hb : badOf ((ps.map tupP).take a ++ x :: r) = some x := by
    rw [← List.map_take]
    exact bad_at hx r (ps.take a) fun p h => hp p (List.mem_of_mem_take h)
  have ln : ((ps.map tupP).take a ++ x :: r).length ≤ 5 := by
    rw [List.length_drop] at hr
    rw [List.length_append, List.length_take, List.length_cons]
    omega
  have l1 : 1 ≤ ((ps.map tupP).take a ++ x :: r).length := by
    rw [List.length_append, List.length_cons]
    omega
  have e6 := q6 (.sh (.scr ns)) st (.sh (.int t)) x y _ hx hb l1 ln (.sh (.int (a : Int))) d5 m5
  refine ⟨(ps.map tupP).take a ++ x :: r, x, y, a, d5, m5, ?_, ok5⟩
  unfold bT
  rw [seq_nx e1, seq_nx e2, seq_nx e3, seq_nx e4, seq_nx e5]
  exact e6
def JJ (ns : List Int) (e : En) : Prop := ∃ st x4 x5 x7 x8 x9 x10, e = [.sh (.scr ns), st, .un, .un, x4, x5, .un, x7, x8, x9, x10] ∧ lentS st = false ∧ lentS x4 = false ∧ lentS x5 = false ∧ lentS x7 = false ∧ lentS x8 = false ∧ lentS x9 = false ∧ lentS x10 = false
def J2 (ns : List Int) (e : En) : Prop := ∃ st d m x5 x7 x8 x9 x10, e = [.sh (.scr ns), st, .un, .un, .ow true (Sack d m), x5, .un, x7, x8, x9, x10] ∧ SackOk d m ∧ lentS st = false ∧ lentS x5 = false ∧ lentS x7 = false ∧ lentS x8 = false ∧ lentS x9 = false ∧ lentS x10 = false
theorem turns (ns : List Int) (e : En) (h : J2 ns e) : ∃ e', sForR (mCons (mC (.int 6)) mNil) (gSet 5) bT e = some (.nx e') ∧ J2 ns e' := by
  obtain ⟨e', q, h'⟩ := loop_nx (set := gSet 5) (body := bT) (J2 ns) (FL.upTo 6) (fun dd hd e h => by
    obtain ⟨j, hj, rfl⟩ := mem_upTo hd
    obtain ⟨st, d, m, x5, x7, x8, x9, x10, rfl, ok, a, b, c, c8, c9, c10⟩ := h
    obtain ⟨l, x, y, z, d', m', qq, ok'⟩ := turn ns st (j : Int) d m ok x7 x8 x9 x10 c c8 c9 c10
    refine ⟨[.sh (.scr ns), st, .un, .un, .ow true (Sack d m), .sh (.int (j : Int)), .un, x7, x8, x9, x10], _, ?_, qq, st, d', m', _, _, _, _, _, rfl, ok', a, rfl, rfl, rfl, rfl, rfl⟩
    simp [gSet, b]) e h
  refine ⟨e', ?_, h'⟩
  have rk : rgOk 6 = true := by decide
  generalize bT = BB at q ⊢
  unfold sForR
  show (if rgOk (6 : Int) = true then loopF (gSet 5) BB (FL.upTo (6 : Int).toNat) _ else none) = _
  rw [if_pos rk]
  exact q
theorem turn1 (ns : List Int) (hb : ∀ z ∈ ns, Builtin.Int.intBits z ≤ 1048576) (i : Nat) (hi : i < 4) (e : En) (h : JJ ns e) : ∃ e1 e2, gSet 1 (.int (i : Int)) e = some e1 ∧ b1 e1 = some (.nx e2) ∧ JJ ns e2 := by
  obtain ⟨st, x4, x5, x7, x8, x9, x10, rfl, a, b, c, c7, c8, c9, c10⟩ := h
  obtain ⟨d, m, e', q, ok⟩ := makes ns i hb (by omega) (by omega)
  have t1 : sOwn 4 (mCall F__law_tape (mCons (mVar 0) (mCons (mVar 1) mNil))) [.sh (.scr ns), .sh (.int (i : Int)), .un, .un, x4, x5, .un, x7, x8, x9, x10] = some (.nx [.sh (.scr ns), .sh (.int (i : Int)), .un, .un, .ow true (Sack d m), x5, .un, x7, x8, x9, x10]) := by
    simp [q, b, mC, mVar, mHs, mV, FL.m2, m2H, FL.m1, m1H, mNil, mCons, mMk, mTb, mTNot, mTAnd, mTOr, mTru, mAnd, mOr, mIf, mChain, sSeq, sNil, sIf, sRet, sDrop, sAsg, gSet, gSets, gUn, lentS_un, lentS_sh, lentS_owt, deref, gI, gB, gNeg, gNot, gTupD, gLstD, szOk, truD, cMod, cDiv, mkFn, mkFnO, endF, FL.cut, FL.cutS, mCall, mCallO, mCallK, sOwn, sRetO, sRetV, gIx, gDGet, keyD, getK, putKD, sDPutD, mDispN, mDicN, gAdd, gMul, gSl, mPn, mPs, mSl, cutA, HT.sIx, gMin2, gMax2, gList, gTuple, gLen, gIsi, isObjD, kindN, isiB, sForL, sForT, sForR, itemsD, rgOk, sPar, cond_true, cond_false, sizeLine_eq, sAppend, mPop]
  obtain ⟨e2, q2, h2⟩ := turns ns _ ⟨.sh (.int (i : Int)), d, m, x5, x7, x8, x9, x10, rfl, ok, rfl, c, c7, c8, c9, c10⟩
  refine ⟨_, e2, (by simp [gSet, a]; rfl), ?_, ?_⟩
  · unfold b1
    rw [seq_nx t1]
    exact q2
  · obtain ⟨st, d, m, x5, x7, x8, x9, x10, rfl, ok, a, b, c, c8, c9, c10⟩ := h2
    exact ⟨st, _, x5, x7, x8, x9, x10, rfl, a, rfl, b, c, c8, c9, c10⟩
theorem law_true (ns : List Int) (hb : ∀ z ∈ ns, Builtin.Int.intBits z ≤ 1048576) (hl : ns.length ≤ 63) : ∃ e', F_law [.sh (.scr ns)] = some (.bl true, e') := by
  have key : ∀ k : Nat, k ≤ 4 → ∃ e2, loopF (gSet 1) b1 (FL.upTo k) ([Sl.sh (.scr ns)] ++ List.replicate 10 Sl.un) = some (.nx e2) ∧ JJ ns e2 := fun k hk =>
    loop_nx (JJ ns) (FL.upTo k) (fun dd hd e h => by
      obtain ⟨j, hj, rfl⟩ := mem_upTo hd
      exact turn1 ns hb j (by omega) e h) _ ⟨.un, .un, .un, .un, .un, .un, .un, rfl, rfl, rfl, rfl, rfl, rfl, rfl, rfl⟩
  obtain ⟨k, hk, hk5⟩ : ∃ k : Nat, (if (if (ns.length : Int) < 4 then (ns.length : Int) else 4) > 1 then (if (ns.length : Int) < 4 then (ns.length : Int) else 4) else 1) = (k : Int) ∧ k ≤ 4 := by
    refine ⟨(if (if (ns.length : Int) < 4 then (ns.length : Int) else 4) > 1 then (if (ns.length : Int) < 4 then (ns.length : Int) else 4) else 1).toNat, ?_, ?_⟩ <;> split <;> split <;> omega
  obtain ⟨e2, q, h2⟩ := key k hk5
  have rk : rgOk (k : Int) = true := by
    unfold rgOk
    simp only [Bool.and_eq_true, decide_eq_true_eq]
    omega
  have hx : S0 ([Sl.sh (.scr ns)] ++ List.replicate 10 Sl.un) = some (.nx e2) := by
    rw [eS]
    generalize b1 = BB at q ⊢
    unfold sForR
    have hm : mCons (mMk gMax2 (mCons (mC (.int 1)) (mCons (mMk gMin2 (mCons (mC (.int 4)) (mCons (m1H gLen (mHs 0)) mNil))) mNil))) mNil ([Sl.sh (.scr ns)] ++ List.replicate 10 Sl.un) = some ([.int k], [Sl.sh (.scr ns)] ++ List.replicate 10 Sl.un) := by
      simp only [← hk]
      generalize (List.replicate 10 Sl.un) = RR
      simp [mC, mVar, mHs, mV, FL.m2, m2H, FL.m1, m1H, mNil, mCons, mMk, mTb, mTNot, mTAnd, mTOr, mTru, mAnd, mOr, mIf, mChain, sSeq, sNil, sIf, sRet, sDrop, sAsg, gSet, gSets, gUn, lentS_un, lentS_sh, lentS_owt, deref, gI, gB, gNeg, gNot, gTupD, gLstD, szOk, truD, cMod, cDiv, mkFn, mkFnO, endF, FL.cut, FL.cutS, mCall, mCallO, mCallK, sOwn, sRetO, sRetV, gIx, gDGet, keyD, getK, putKD, sDPutD, mDispN, mDicN, gAdd, gMul, gSl, mPn, mPs, mSl, cutA, HT.sIx, gMin2, gMax2, gList, gTuple, gLen, gIsi, isObjD, kindN, isiB, sForL, sForT, sForR, itemsD, rgOk, sPar, cond_true, cond_false, sizeLine_eq, sAppend, mPop]
    rw [hm]
    show (if rgOk (k : Int) = true then loopF (gSet 1) BB (FL.upTo (k : Int).toNat) _ else none) = _
    rw [if_pos rk, Int.toNat_natCast]
    exact q
  refine ⟨[.un], ?_⟩
  unfold F_law
  simp only [show 11 - 1 = 10 from rfl, hx]
  obtain ⟨st, x4, x5, x7, x8, x9, x10, rfl, _⟩ := h2
  rfl
end K08

set_option Elab.async false
set_option linter.all false
set_option maxRecDepth 100000
set_option maxHeartbeats 4000000
namespace K08
open PySem PySem.Spec PyProof.Rows L2 FL PL
def top (i : Nat) : Stmt := PySem.Challenge.pw_freshpromise_k08_wrong_pairs.main.body.getD i (.Pass ⟨0, 0, 0, 0⟩)
def sub (i j : Nat) : Stmt := match top i with
  | .ClassDef _ _ _ body _ _ _ _ _ _ _ => body.getD j (.Pass ⟨0, 0, 0, 0⟩)
  | _ => .Pass ⟨0, 0, 0, 0⟩
abbrev s_is_whole : Stmt := top 8
abbrev N_is_whole : List Str := ["value"]
abbrev s_is_day : Stmt := top 9
abbrev N_is_day : List Str := ["value"]
abbrev s_is_pair : Stmt := top 10
abbrev N_is_pair : List Str := ["value", "day", "keeps"]
abbrev s_BadStairs____init__ : Stmt := sub 3 0
abbrev N_BadStairs____init__ : List Str := ["self", "value"]
abbrev s_Stairs____init__ : Stmt := sub 13 0
abbrev N_Stairs____init__ : List Str := ["self", "pairs", "pair"]
abbrev s__law_made : Stmt := top 23
abbrev N__law_made : List Str := ["pairs"]
abbrev s__law_refused : Stmt := top 27
abbrev N__law_refused : List Str := ["values", "caught", "e"]
abbrev s__law_tape : Stmt := top 18
abbrev N__law_tape : List Str := ["script", "start", "mixed", "cell", "digits"]
abbrev s__law_pick : Stmt := top 19
abbrev N__law_pick : List Str := ["tape", "size", "found"]
abbrev s__law_one_of : Stmt := top 20
abbrev N__law_one_of : List Str := ["tape", "items"]
abbrev s__law_pair : Stmt := top 21
abbrev N__law_pair : List Str := ["tape", "day", "pair"]
abbrev s__law_pairs : Stmt := top 22
abbrev N__law_pairs : List Str := ["tape", "most", "turn"]
abbrev s__law_any : Stmt := top 26
abbrev N__law_any : List Str := ["tape", "some"]
abbrev s_law : Stmt := top 28
abbrev N_law : List Str := ["script", "start", "own", "caught", "tape", "turn", "e", "values", "first", "second", "at"]
/-! ### what the top has left -/
structure Tx (K : PySem.W.Frag) (mg : Str → Option Value) : Prop where
  fn_is_whole : ∃ fd, FunD K "is_whole" "is_whole" (defArgs s_is_whole) (defBody s_is_whole) (defScope s_is_whole) [] [] (He.ga K "is_whole") fd
  fn_is_day : ∃ fd, FunD K "is_day" "is_day" (defArgs s_is_day) (defBody s_is_day) (defScope s_is_day) [] [] (He.ga K "is_day") fd
  fn_is_pair : ∃ fd, FunD K "is_pair" "is_pair" (defArgs s_is_pair) (defBody s_is_pair) (defScope s_is_pair) [] [] (He.ga K "is_pair") fd
  fn_BadStairs____init__ : ∃ fd, FunD K "__init__" "BadStairs.__init__" (defArgs s_BadStairs____init__) (defBody s_BadStairs____init__) (defScope s_BadStairs____init__) [] [] (He.ma K (He.ga K "BadStairs") "__init__") fd
  fn_Stairs____init__ : ∃ fd, FunD K "__init__" "Stairs.__init__" (defArgs s_Stairs____init__) (defBody s_Stairs____init__) (defScope s_Stairs____init__) [] [] (He.ma K (He.ga K "Stairs") "__init__") fd
  fn__law_made : ∃ fd, FunD K "_law_made" "_law_made" (defArgs s__law_made) (defBody s__law_made) (defScope s__law_made) [] [] (He.ga K "_law_made") fd
  fn__law_refused : ∃ fd, FunD K "_law_refused" "_law_refused" (defArgs s__law_refused) (defBody s__law_refused) (defScope s__law_refused) [] [] (He.ga K "_law_refused") fd
  fn__law_tape : ∃ fd, FunD K "_law_tape" "_law_tape" (defArgs s__law_tape) (defBody s__law_tape) (defScope s__law_tape) [] [] (He.ga K "_law_tape") fd
  fn__law_pick : ∃ fd, FunD K "_law_pick" "_law_pick" (defArgs s__law_pick) (defBody s__law_pick) (defScope s__law_pick) [] [] (He.ga K "_law_pick") fd
  fn__law_one_of : ∃ fd, FunD K "_law_one_of" "_law_one_of" (defArgs s__law_one_of) (defBody s__law_one_of) (defScope s__law_one_of) [] [] (He.ga K "_law_one_of") fd
  fn__law_pair : ∃ fd, FunD K "_law_pair" "_law_pair" (defArgs s__law_pair) (defBody s__law_pair) (defScope s__law_pair) [] [] (He.ga K "_law_pair") fd
  fn__law_pairs : ∃ fd, FunD K "_law_pairs" "_law_pairs" (defArgs s__law_pairs) (defBody s__law_pairs) (defScope s__law_pairs) [] [] (He.ga K "_law_pairs") fd
  fn__law_any : ∃ fd, FunD K "_law_any" "_law_any" (defArgs s__law_any) (defBody s__law_any) (defScope s__law_any) [] [] (He.ga K "_law_any") fd
  fn_law : ∃ fd, FunD K "law" "law" (defArgs s_law) (defBody s_law) (defScope s_law) [] [] (He.ga K "law") fd
  no_bool : mg "bool" = none
  no_int : mg "int" = none
  no_isinstance : mg "isinstance" = none
  no_len : mg "len" = none
  no_max : mg "max" = none
  no_min : mg "min" = none
  no_range : mg "range" = none
  no_repr : mg "repr" = none
  no_tuple : mg "tuple" = none
  in_LAST_DAY : ∃ t, mg "LAST_DAY" = some (.int 1000000 t)
  gl_is_whole : mg "is_whole" = some (.ref (He.ga K "is_whole"))
  gl_is_day : mg "is_day" = some (.ref (He.ga K "is_day"))
  gl_is_pair : mg "is_pair" = some (.ref (He.ga K "is_pair"))
  gl__law_made : mg "_law_made" = some (.ref (He.ga K "_law_made"))
  gl__law_refused : mg "_law_refused" = some (.ref (He.ga K "_law_refused"))
  gl__law_tape : mg "_law_tape" = some (.ref (He.ga K "_law_tape"))
  gl__law_pick : mg "_law_pick" = some (.ref (He.ga K "_law_pick"))
  gl__law_one_of : mg "_law_one_of" = some (.ref (He.ga K "_law_one_of"))
  gl__law_pair : mg "_law_pair" = some (.ref (He.ga K "_law_pair"))
  gl__law_pairs : mg "_law_pairs" = some (.ref (He.ga K "_law_pairs"))
  gl__law_any : mg "_law_any" = some (.ref (He.ga K "_law_any"))
  gl_law : mg "law" = some (.ref (He.ga K "law"))
  gl_Stairs : mg "Stairs" = some (.ref (He.ga K "Stairs"))
  cl_Stairs : Cls K (He.ga K "Stairs")
  mk_Stairs : Mk K (He.ga K "Stairs") (He.ma K (He.ga K "Stairs") "__init__")
  gl_BadStairs : mg "BadStairs" = some (.ref (He.ga K "BadStairs"))
  gl_FreshError : mg "FreshError" = some (.ref (He.ga K "FreshError"))
  ix_BadStairs : IsX K "BadStairs"
  em_Fresh : PySem.W.exmOne K (.ref (He.ga K "BadStairs")) (.ref (He.ga K "FreshError")) = some true
  ex_BadStairs : ExF K "BadStairs" "value"
section
variable {P : Program} {w : World} {K : PySem.W.Frag} {mg : Str → Option Value}
theorem sc_is_whole : FnScope N_is_whole ["value"] (defScope s_is_whole) := ⟨rfl, rfl, rfl, by decide +kernel, rfl, by decide +kernel, by decide +kernel⟩
abbrev Fd_is_whole (K : PySem.W.Frag) (fd : FuncData) : Prop := FunD K "is_whole" "is_whole" (defArgs s_is_whole) (defBody s_is_whole) (defScope s_is_whole) [] [] (He.ga K "is_whole") fd
theorem bn_is_whole {fd : FuncData} (F : Fd_is_whole K fd) : Binds K fd ["value"] [] := F.bindsN fun _ _ _ _ _ _ us hl => match us, hl with | [_], _ => rfl
theorem ok_is_whole (T : Tx K mg) : ∃ fd, (∀ base : Heap, FnOk P w K mg base CX0 1 (He.ga K "is_whole") fd ["value"] (spF K F_is_whole)) ∧ Fd_is_whole K fd := by
  obtain ⟨fd, F⟩ := T.fn_is_whole
  refine ⟨fd, fun base => def_okN F sc_is_whole fun cdv A outer s H E c room => ?_, F⟩
  have nd := (sc_is_whole).nd
  exact (fs_one (fs_ret (f_and (f_isi (T := "int") (by decide) (f_hvar 0 (pv 0)) (by rfl) T.no_isinstance (by rfl) T.no_int (by decide +kernel)) (f_one (f_not (f_isi (T := "bool") (by decide) (f_hvar 0 (pv 0)) (by rfl) T.no_isinstance (by rfl) T.no_bool (by decide +kernel)))))))
theorem sc_is_day : FnScope N_is_day ["value"] (defScope s_is_day) := ⟨rfl, rfl, rfl, by decide +kernel, rfl, by decide +kernel, by decide +kernel⟩
abbrev Fd_is_day (K : PySem.W.Frag) (fd : FuncData) : Prop := FunD K "is_day" "is_day" (defArgs s_is_day) (defBody s_is_day) (defScope s_is_day) [] [] (He.ga K "is_day") fd
theorem bn_is_day {fd : FuncData} (F : Fd_is_day K fd) : Binds K fd ["value"] [] := F.bindsN fun _ _ _ _ _ _ us hl => match us, hl with | [_], _ => rfl
theorem ok_is_day (T : Tx K mg) : ∃ fd, (∀ base : Heap, FnOk P w K mg base CX0 2 (He.ga K "is_day") fd ["value"] (spF K F_is_day)) ∧ Fd_is_day K fd := by
  obtain ⟨fd_is_whole, G_is_whole, D_is_whole⟩ := ok_is_whole (P := P) (w := w) T
  have b_is_whole := bn_is_whole D_is_whole
  have k_is_whole := D_is_whole.kp
  obtain ⟨fd, F⟩ := T.fn_is_day
  refine ⟨fd, fun base => def_okN F sc_is_day fun cdv A outer s H E c room => ?_, F⟩
  have nd := (sc_is_day).nd
  exact (fs_one (fs_ret (f_and (f_callN ((G_is_whole base).mono (by decide)) room (by rfl) T.gl_is_whole k_is_whole b_is_whole (fa_cons (f_var 0 (pv 0)) fa_nil)) (f_one (f_chain op_le op_le (o2_cmp _) (o2_cmp _) f_int (f_var 0 (pv 0)) (f_const (pe_glob (by rfl) T.in_LAST_DAY.choose_spec (show RelV (.int 1000000) _ from ⟨_, rfl⟩)) fun _ => .int _))))))
theorem sc_is_pair : FnScope N_is_pair ["value"] (defScope s_is_pair) := ⟨rfl, rfl, rfl, by decide +kernel, rfl, by decide +kernel, by decide +kernel⟩
abbrev Fd_is_pair (K : PySem.W.Frag) (fd : FuncData) : Prop := FunD K "is_pair" "is_pair" (defArgs s_is_pair) (defBody s_is_pair) (defScope s_is_pair) [] [] (He.ga K "is_pair") fd
theorem bn_is_pair {fd : FuncData} (F : Fd_is_pair K fd) : Binds K fd ["value"] [] := F.bindsN fun _ _ _ _ _ _ us hl => match us, hl with | [_], _ => rfl
theorem ok_is_pair (T : Tx K mg) : ∃ fd, (∀ base : Heap, FnOk P w K mg base CX0 3 (He.ga K "is_pair") fd ["value"] (spF K F_is_pair)) ∧ Fd_is_pair K fd := by
  obtain ⟨fd_is_day, G_is_day, D_is_day⟩ := ok_is_day (P := P) (w := w) T
  have b_is_day := bn_is_day D_is_day
  have k_is_day := D_is_day.kp
  obtain ⟨fd, F⟩ := T.fn_is_pair
  refine ⟨fd, fun base => def_okN F sc_is_pair fun cdv A outer s H E c room => ?_, F⟩
  have nd := (sc_is_pair).nd
  exact (fs_cons (fs_if (ft_not (PW.pt (fw_and (ft_b (f_isi (T := "tuple") (by decide) (f_hvar 0 (pv 0)) (by rfl) T.no_isinstance (by rfl) T.no_tuple (by decide +kernel))) (fw_and1 (ft_eq room (f_val (f_len (f_hvar 0 (pv 0)) (by rfl) T.no_len)) (f_val f_int)))))) (fs_one (fs_ret f_bl)) fs_nil)
    (fs_cons (fs_asg (f_var 0 (pv 0)) (fg_tup rfl (fgs_cons (fg_name (pg_name nd rfl (Or.inl rfl))) (fgs_cons (fg_name (pg_name nd rfl (Or.inl rfl))) fgs_nil)) rfl))
    (fs_one (fs_ret (f_and (f_callN ((G_is_day base).mono (by decide)) room (by rfl) T.gl_is_day k_is_day b_is_day (fa_cons (f_var 1 (pv 1)) fa_nil)) (f_and (f_callN ((G_is_day base).mono (by decide)) room (by rfl) T.gl_is_day k_is_day b_is_day (fa_cons (f_var 2 (pv 2)) fa_nil)) (f_one (f_le (f_hvar 1 (pv 1)) (f_hvar 2 (pv 2))))))))))
theorem sc_BadStairs____init__ : FnScope N_BadStairs____init__ ["self", "value"] (defScope s_BadStairs____init__) := ⟨rfl, rfl, rfl, by decide +kernel, rfl, by decide +kernel, by decide +kernel⟩
abbrev Fd_BadStairs____init__ (K : PySem.W.Frag) (fd : FuncData) : Prop := FunD K "__init__" "BadStairs.__init__" (defArgs s_BadStairs____init__) (defBody s_BadStairs____init__) (defScope s_BadStairs____init__) [] [] (He.ma K (He.ga K "BadStairs") "__init__") fd
theorem bn_BadStairs____init__ {fd : FuncData} (F : Fd_BadStairs____init__ K fd) : Binds K fd ["self", "value"] [] := F.bindsN fun _ _ _ _ _ _ us hl => match us, hl with | [_, _], _ => rfl
theorem ok_BadStairs____init__ (T : Tx K mg) : ∃ fd, (∀ base : Heap, FnOk P w K mg base CX0 1 (He.ma K (He.ga K "BadStairs") "__init__") fd ["self", "value"] (spI K "BadStairs" "value")) ∧ Fd_BadStairs____init__ K fd := by
  obtain ⟨fd, F⟩ := T.fn_BadStairs____init__
  refine ⟨fd, fun base => F.ok sc_BadStairs____init__ (fun vs H Q E ⟨a, v, h, _⟩ => by rw [h]; rfl) fun cdv A outer s H vs Q E room ⟨a, v, hv, ha, kk⟩ => ⟨_, pss_one (ps_ost (pv 0) (pv 1)), ?_⟩, F⟩
  subst hv
  exact ⟨v, rfl, .ref a, rfl, a, He.ga K "BadStairs", rfl, T.ex_BadStairs.ox, T.ex_BadStairs.non, .inl ⟨ha, fun dx hd hne => kk dx hd hne⟩⟩
theorem sc_Stairs____init__ : FnScope N_Stairs____init__ ["self", "pairs"] (defScope s_Stairs____init__) := ⟨rfl, rfl, rfl, by decide +kernel, rfl, by decide +kernel, by decide +kernel⟩
abbrev Fd_Stairs____init__ (K : PySem.W.Frag) (fd : FuncData) : Prop := FunD K "__init__" "Stairs.__init__" (defArgs s_Stairs____init__) (defBody s_Stairs____init__) (defScope s_Stairs____init__) [] [] (He.ma K (He.ga K "Stairs") "__init__") fd
/-! ### what raises BadStairs -/
def spRI (K : PySem.W.Frag) : Sp := fun vs H Q E => ∃ (s : V) (p : Addr) (rest : List V) (S : Hp) (ds : List D) (k : Nat), vs = [s, .ref p] ∧ H p = some (.tup rest) ∧ Same S H ∧ RelDs K S ds rest ∧ FirstBad ds k ∧ ∀ (H' : Hp) (dd : Addr) (v : V), Same H H' → H' dd = none → rest[k]? = some v → E (.ref (He.ga K "BadStairs")) (some dd) (upd H' dd (.xd [("value", v)]))
def spRS (K : PySem.W.Frag) : Sp := fun vs H Q E => ∃ (s : V) (rest : List V) (S : Hp) (ds : List D) (k : Nat), vs = s :: rest ∧ rest.length ≤ sizeLine ∧ Same S H ∧ RelDs K S ds rest ∧ FirstBad ds k ∧ ∀ (H' : Hp) (dd : Addr) (v : V), Same H H' → H' dd = none → rest[k]? = some v → E (.ref (He.ga K "BadStairs")) (some dd) (upd H' dd (.xd [("value", v)]))
theorem rz_init (T : Tx K mg) : ∃ fd, (∀ base : Heap, FnR P w K mg base (L2.CX P w) 5 (He.ma K (He.ga K "Stairs") "__init__") (spRS K)) ∧ Fd_Stairs____init__ K fd := by
  obtain ⟨fd_is_pair, G_is_pair, D_is_pair⟩ := ok_is_pair (P := P) (w := w) T
  have b_is_pair := bn_is_pair D_is_pair
  have k_is_pair := D_is_pair.kp
  obtain ⟨fd_i, G_i, D_i⟩ := ok_BadStairs____init__ (P := P) (w := w) T
  have b_i := bn_BadStairs____init__ D_i
  obtain ⟨fd, F⟩ := T.fn_Stairs____init__
  refine ⟨fd, fun base => ?_, F⟩
  have nd := (sc_Stairs____init__).nd
  have R : FnR P w K mg base (L2.CX P w) 5 (He.ma K (He.ga K "Stairs") "__init__") (fun vs H Q E => ∃ ws rest, vs = ws ++ rest ∧ ws.length = ["self"].length ∧ rest.length ≤ sizeLine ∧ ∀ p, H p = Option.none → spRI K (ws ++ [V.ref p]) (upd H p (.tup rest)) Q E) := by
    obtain ⟨oc, od, dV, kV, doc, pm, an, cdv, ct, osl, rfl, lk, hcd, hD, _⟩ := F.ex
    rcases hD with ⟨_, rfl⟩ | ⟨e, _⟩
    · refine StX.fn_star (ps := ["self"]) lk hcd sc_Stairs____init__ StX.cxUp (fun us rest hl => StX.bind_star1 (B := fun us => bindArgs _ ⟨us, []⟩) (fun _ => rfl) (fun _ _ _ => rfl) us rest hl) fun A outer s H vs Q E room h => ?_
      have tk : Takes (cxOf (L2.CX P w) P w K mg base N_Stairs____init__ "Stairs.__init__" (defScope s_Stairs____init__) (He.ma K (He.ga K "Stairs") "__init__") cdv A outer s H E) (fun cls d _ H => E cls d H) := takes_of rfl rfl rfl rfl
      obtain ⟨s0, p, rest, S, ds, k, rfl, hp, hs, rd, ⟨hb, d, hk, hbad⟩, kk⟩ := h
      refine ⟨_, pss_cons (ps_for (passes_of rfl) rfl (pi_tup (pv 1)) (pg_name (i := 2) nd rfl (Or.inl rfl)) (pss_one (ps_if (pt_not (pt_val (pe_call ((G_is_pair base).mono (by decide)) room (by rfl) T.gl_is_pair k_is_pair b_is_pair .nil pass0 (pa_cons (pv 2) pa_nil)))) (pss_one (ps_raiseN rfl tk T.ex_BadStairs (G_i base) (room.mono (by decide)) b_i (by rfl) T.gl_BadStairs (pv 2))) pss_nil))) pss_bad, ?_⟩
      refine ⟨.ref p, rfl, p, rfl, ⟨rest, .inl (.inl hp)⟩, for_tup (xs := rest) (fun i σ H2 => i ≤ k ∧ σ.length = 3 ∧ Same H H2) ⟨Nat.zero_le _, rfl, Same.refl _⟩ (fun i σ H2 _ ⟨_, _, z⟩ => .inl (.inl (z _ _ hp))) (fun i x σ H2 hx ⟨hi, hl, hsm⟩ => ?_) (fun σ H2 ⟨hi, _, _⟩ => ?_)⟩
      · have h2 : (σ.set 2 (some x))[2]? = some (some x) := List.getElem?_set_self (by omega)
        obtain ⟨dx, hdx, rx⟩ : ∃ dx, ds[i]? = some dx ∧ RelD K S dx x := by
          have hlt : i < ds.length := by rw [rd.length]; exact (List.getElem?_eq_some_iff.mp hx).1
          obtain ⟨x', hx', rx⟩ := rd.get (List.getElem?_eq_getElem hlt)
          rw [hx] at hx'; cases hx'
          exact ⟨_, List.getElem?_eq_getElem hlt, rx⟩
        have sub : Same S H2 := fun b u z => hsm b u (hs b u z)
        rcases Nat.lt_or_eq_of_le hi with hi | rfl
        · refine ⟨x, h2, fun _ => none, S, [.sh dx], .bl true, [.un], ER.args sub (.cons rx .nil), hb i dx hi hdx, fun S' H' v E' s' r' => ?_⟩
          cases r'
          refine ⟨true, rfl, ?_⟩
          exact ⟨hi, by rw [List.length_set]; exact hl, fun b o q => E'.kep b o (hsm b o q) fun _ z => nomatch z⟩
        · rw [hk] at hdx
          cases hdx
          refine ⟨x, h2, fun _ => none, S, [.sh d], .bl false, [.un], ER.args sub (.cons rx .nil), hbad, fun S' H' v E' s' r' => ?_⟩
          cases r'
          refine ⟨false, rfl, ?_⟩
          exact ⟨x, h2, fun dd hd => kk H' dd x (fun b o q => E'.kep b o (hsm b o q) fun _ z => nomatch z) hd hx⟩
      · have : k < rest.length := by
          rw [← rd.length]
          exact (List.getElem?_eq_some_iff.mp hk).1
        omega
    · exact absurd rfl e
  intro A outer s H us vs Q E hr e0 r h
  refine R A outer s H us vs Q E hr e0 r ?_
  obtain ⟨s0, rest, S, ds, k, rfl, hz, hs, rd, fb, kk⟩ := h
  refine ⟨[s0], rest, rfl, rfl, hz, fun p hp => ⟨s0, p, rest, S, ds, k, rfl, upd_same, fun b o q => same_of hp (Same.refl _) b o (hs b o q), rd, fb, fun H' dd v h1 h2 h3 => kk H' dd v (fun b o q => h1 b o (same_of hp (Same.refl _) b o q)) h2 h3⟩⟩
theorem sc__law_made : FnScope N__law_made ["pairs"] (defScope s__law_made) := ⟨rfl, rfl, rfl, by decide +kernel, rfl, by decide +kernel, by decide +kernel⟩
abbrev Fd__law_made (K : PySem.W.Frag) (fd : FuncData) : Prop := FunD K "_law_made" "_law_made" (defArgs s__law_made) (defBody s__law_made) (defScope s__law_made) [] [] (He.ga K "_law_made") fd
theorem bn__law_made {fd : FuncData} (F : Fd__law_made K fd) : Binds K fd ["pairs"] [] := F.bindsN fun _ _ _ _ _ _ us hl => match us, hl with | [_], _ => rfl
def spM (K : PySem.W.Frag) : Sp := fun vs H Q E => ∃ (S : Hp) (ds : List D) (k : Nat) (v0 : V), vs = [v0] ∧ Same S H ∧ RelD K S (.lst ds) v0 ∧ 1 ≤ ds.length ∧ ds.length ≤ 5 ∧ FirstBad ds k ∧ ∀ (H' : Hp) (dd : Addr) (v : V), Same H H' → H' dd = none → (∃ S' d, Same S S' ∧ Same S' H' ∧ (∀ b, S' b ≠ none → S b ≠ none ∨ H b = none) ∧ ds[k]? = some d ∧ RelD K S' d v) → E (.ref (He.ga K "BadStairs")) (some dd) (upd H' dd (.xd [("value", v)]))
theorem rz_made (T : Tx K mg) : ∃ fd, (∀ base : Heap, FnOk P w K mg base (L2.CX P w) 8 (He.ga K "_law_made") fd ["pairs"] (spM K)) ∧ Fd__law_made K fd := by
  obtain ⟨fd_i, R_i, D_i⟩ := rz_init (P := P) (w := w) T
  obtain ⟨fd, F⟩ := T.fn__law_made
  refine ⟨fd, fun base => F.ok sc__law_made (fun vs H Q E ⟨_, _, _, _, h, _⟩ => by rw [h]; rfl) fun cdv A outer s H vs Q E room h => ?_, F⟩
  have nd := (sc__law_made).nd
  have tk : Takes (cxOf (L2.CX P w) P w K mg base N__law_made "_law_made" (defScope s__law_made) (He.ga K "_law_made") cdv A outer s H E) (fun cls d _ H => E cls d H) := takes_of rfl rfl rfl rfl
  have room6 := room.mono (show 6 ≤ 7 by decide)
  obtain ⟨S, ds, k, v0, rfl, hs, r0, h1, h5, fb, kk⟩ := h
  have E0' : ER K (fun _ => none) S H S H (start N__law_made [v0]) [.sh (.lst ds)] := (ER.args hs (.cons r0 .nil)).start
  have last : ∀ (S2 H2 : Hp), ER K (fun _ => none) S H S2 H2 (start N__law_made [v0]) [.sh (.lst ds)] → Same S S2 → ∀ (S3 H3 : Hp) (us : List V), ER K (fun _ => none) S H S3 H3 (start N__law_made [v0]) [.sh (.lst ds)] → Same S2 S3 → RelDs K S3 ds us → ∀ x dx, H3 x = Option.none → H3 dx = Option.none → dx ≠ x →
      spRS K (V.ref x :: us) (upd (upd H3 dx (.own x)) x (.ins (He.ga K "Stairs") dx [])) (fun v H4 => v = .non ∧ Q (.ref x) H4) E := fun S2 H2 E2 s2 S3 H3 us E3 s3 r3 x dx hx hdx hne => by
    have up : Same H3 (upd (upd H3 dx (.own x)) x (.ins (He.ga K "Stairs") dx [])) := same_of hx (same_of hdx (Same.refl _))
    refine ⟨.ref x, us, S3, ds, k, rfl, by rw [← r3.length]; exact Nat.le_trans h5 (by rw [sizeLine_eq]; decide), fun b o q => up b o (E3.sub b o q), r3, fb, fun H' dd v h1 h2 h3 => kk H' dd v (fun b o q => h1 b o (up b o (E3.kep b o q fun _ z => nomatch z))) h2 ?_⟩
    obtain ⟨_, d, hd, _⟩ := fb
    obtain ⟨v', hv', rv⟩ := r3.get hd
    rw [h3] at hv'; cases hv'
    exact ⟨S3, d, s2.trans s3, fun b o q => h1 b o (up b o (E3.sub b o q)), E3.frs, hd, rv⟩
  rcases ds with _ | ⟨d0, _ | ⟨d1, _ | ⟨d2, _ | ⟨d3, _ | ⟨d4, _ | ⟨d5, r⟩⟩⟩⟩⟩⟩
  · exact absurd h1 (by simp)
  · refine ⟨_, (pss_cons (ps_if (ft_eq (c := ⟨fun _ => none, S, H⟩) room (f_val (f_len (f_hvar 0 (pv 0)) (by rfl) T.no_len)) (f_val f_int)) pss_bad pss_nil) (pss_cons (ps_if (ft_eq (c := ⟨fun _ => none, S, H⟩) room (f_val (f_len (f_hvar 0 (pv 0)) (by rfl) T.no_len)) (f_val f_int)) (pss_one (ps_ret (StX.pe_makeR T.mk_Stairs (R_i base) room6 (by rfl) T.gl_Stairs (passes_call tk (E := E) fun _ _ _ _ h => h) (fa_cons (c := ⟨fun _ => none, S, H⟩) (f_item (f_hvar 0 (pv 0)) (f_val f_int) (fun _ _ => rfl)) fa_nil)))) pss_nil) pss_bad)), ?_⟩
    refine ⟨S, _, _, _, E0', len_no [d0] 0 (by simp), fun S0 H0 E0 s0 => iteF ?_⟩
    have z0 : Same S S0 := s0
    refine ⟨S0, _, _, _, E0, len_yes [d0] 1 rfl, fun S9 H9 E9 s9 => iteT ?_⟩
    exact ⟨S9, _, _, _, E9, args1 _ d0 rfl, fun S10 H10 us E10 s10 r10 => last S9 H9 E9 (z0.trans s9) S10 H10 us E10 s10 r10⟩
  · refine ⟨_, (pss_cons (ps_if (ft_eq (c := ⟨fun _ => none, S, H⟩) room (f_val (f_len (f_hvar 0 (pv 0)) (by rfl) T.no_len)) (f_val f_int)) pss_bad pss_nil) (pss_cons (ps_if (ft_eq (c := ⟨fun _ => none, S, H⟩) room (f_val (f_len (f_hvar 0 (pv 0)) (by rfl) T.no_len)) (f_val f_int)) pss_bad pss_nil) (pss_cons (ps_if (ft_eq (c := ⟨fun _ => none, S, H⟩) room (f_val (f_len (f_hvar 0 (pv 0)) (by rfl) T.no_len)) (f_val f_int)) (pss_one (ps_ret (StX.pe_makeR T.mk_Stairs (R_i base) room6 (by rfl) T.gl_Stairs (passes_call tk (E := E) fun _ _ _ _ h => h) (fa_cons (c := ⟨fun _ => none, S, H⟩) (f_item (f_hvar 0 (pv 0)) (f_val f_int) (fun _ _ => rfl)) (fa_cons (f_item (f_hvar 0 (pv 0)) (f_val f_int) (fun _ _ => rfl)) fa_nil))))) pss_nil) pss_bad))), ?_⟩
    refine ⟨S, _, _, _, E0', len_no [d0, d1] 0 (by simp), fun S0 H0 E0 s0 => iteF ?_⟩
    have z0 : Same S S0 := s0
    refine ⟨S0, _, _, _, E0, len_no [d0, d1] 1 (by simp), fun S1 H1 E1 s1 => iteF ?_⟩
    have z1 : Same S S1 := z0.trans s1
    refine ⟨S1, _, _, _, E1, len_yes [d0, d1] 2 rfl, fun S9 H9 E9 s9 => iteT ?_⟩
    exact ⟨S9, _, _, _, E9, args2 _ d0 d1 rfl, fun S10 H10 us E10 s10 r10 => last S9 H9 E9 (z1.trans s9) S10 H10 us E10 s10 r10⟩
  · refine ⟨_, (pss_cons (ps_if (ft_eq (c := ⟨fun _ => none, S, H⟩) room (f_val (f_len (f_hvar 0 (pv 0)) (by rfl) T.no_len)) (f_val f_int)) pss_bad pss_nil) (pss_cons (ps_if (ft_eq (c := ⟨fun _ => none, S, H⟩) room (f_val (f_len (f_hvar 0 (pv 0)) (by rfl) T.no_len)) (f_val f_int)) pss_bad pss_nil) (pss_cons (ps_if (ft_eq (c := ⟨fun _ => none, S, H⟩) room (f_val (f_len (f_hvar 0 (pv 0)) (by rfl) T.no_len)) (f_val f_int)) pss_bad pss_nil) (pss_cons (ps_if (ft_eq (c := ⟨fun _ => none, S, H⟩) room (f_val (f_len (f_hvar 0 (pv 0)) (by rfl) T.no_len)) (f_val f_int)) (pss_one (ps_ret (StX.pe_makeR T.mk_Stairs (R_i base) room6 (by rfl) T.gl_Stairs (passes_call tk (E := E) fun _ _ _ _ h => h) (fa_cons (c := ⟨fun _ => none, S, H⟩) (f_item (f_hvar 0 (pv 0)) (f_val f_int) (fun _ _ => rfl)) (fa_cons (f_item (f_hvar 0 (pv 0)) (f_val f_int) (fun _ _ => rfl)) (fa_cons (f_item (f_hvar 0 (pv 0)) (f_val f_int) (fun _ _ => rfl)) fa_nil)))))) pss_nil) pss_bad)))), ?_⟩
    refine ⟨S, _, _, _, E0', len_no [d0, d1, d2] 0 (by simp), fun S0 H0 E0 s0 => iteF ?_⟩
    have z0 : Same S S0 := s0
    refine ⟨S0, _, _, _, E0, len_no [d0, d1, d2] 1 (by simp), fun S1 H1 E1 s1 => iteF ?_⟩
    have z1 : Same S S1 := z0.trans s1
    refine ⟨S1, _, _, _, E1, len_no [d0, d1, d2] 2 (by simp), fun S2 H2 E2 s2 => iteF ?_⟩
    have z2 : Same S S2 := z1.trans s2
    refine ⟨S2, _, _, _, E2, len_yes [d0, d1, d2] 3 rfl, fun S9 H9 E9 s9 => iteT ?_⟩
    exact ⟨S9, _, _, _, E9, args3 _ d0 d1 d2 rfl, fun S10 H10 us E10 s10 r10 => last S9 H9 E9 (z2.trans s9) S10 H10 us E10 s10 r10⟩
  · refine ⟨_, (pss_cons (ps_if (ft_eq (c := ⟨fun _ => none, S, H⟩) room (f_val (f_len (f_hvar 0 (pv 0)) (by rfl) T.no_len)) (f_val f_int)) pss_bad pss_nil) (pss_cons (ps_if (ft_eq (c := ⟨fun _ => none, S, H⟩) room (f_val (f_len (f_hvar 0 (pv 0)) (by rfl) T.no_len)) (f_val f_int)) pss_bad pss_nil) (pss_cons (ps_if (ft_eq (c := ⟨fun _ => none, S, H⟩) room (f_val (f_len (f_hvar 0 (pv 0)) (by rfl) T.no_len)) (f_val f_int)) pss_bad pss_nil) (pss_cons (ps_if (ft_eq (c := ⟨fun _ => none, S, H⟩) room (f_val (f_len (f_hvar 0 (pv 0)) (by rfl) T.no_len)) (f_val f_int)) pss_bad pss_nil) (pss_cons (ps_if (ft_eq (c := ⟨fun _ => none, S, H⟩) room (f_val (f_len (f_hvar 0 (pv 0)) (by rfl) T.no_len)) (f_val f_int)) (pss_one (ps_ret (StX.pe_makeR T.mk_Stairs (R_i base) room6 (by rfl) T.gl_Stairs (passes_call tk (E := E) fun _ _ _ _ h => h) (fa_cons (c := ⟨fun _ => none, S, H⟩) (f_item (f_hvar 0 (pv 0)) (f_val f_int) (fun _ _ => rfl)) (fa_cons (f_item (f_hvar 0 (pv 0)) (f_val f_int) (fun _ _ => rfl)) (fa_cons (f_item (f_hvar 0 (pv 0)) (f_val f_int) (fun _ _ => rfl)) (fa_cons (f_item (f_hvar 0 (pv 0)) (f_val f_int) (fun _ _ => rfl)) fa_nil))))))) pss_nil) pss_bad))))), ?_⟩
    refine ⟨S, _, _, _, E0', len_no [d0, d1, d2, d3] 0 (by simp), fun S0 H0 E0 s0 => iteF ?_⟩
    have z0 : Same S S0 := s0
    refine ⟨S0, _, _, _, E0, len_no [d0, d1, d2, d3] 1 (by simp), fun S1 H1 E1 s1 => iteF ?_⟩
    have z1 : Same S S1 := z0.trans s1
    refine ⟨S1, _, _, _, E1, len_no [d0, d1, d2, d3] 2 (by simp), fun S2 H2 E2 s2 => iteF ?_⟩
    have z2 : Same S S2 := z1.trans s2
    refine ⟨S2, _, _, _, E2, len_no [d0, d1, d2, d3] 3 (by simp), fun S3 H3 E3 s3 => iteF ?_⟩
    have z3 : Same S S3 := z2.trans s3
    refine ⟨S3, _, _, _, E3, len_yes [d0, d1, d2, d3] 4 rfl, fun S9 H9 E9 s9 => iteT ?_⟩
    exact ⟨S9, _, _, _, E9, args4 _ d0 d1 d2 d3 rfl, fun S10 H10 us E10 s10 r10 => last S9 H9 E9 (z3.trans s9) S10 H10 us E10 s10 r10⟩
  · refine ⟨_, (pss_cons (ps_if (ft_eq (c := ⟨fun _ => none, S, H⟩) room (f_val (f_len (f_hvar 0 (pv 0)) (by rfl) T.no_len)) (f_val f_int)) pss_bad pss_nil) (pss_cons (ps_if (ft_eq (c := ⟨fun _ => none, S, H⟩) room (f_val (f_len (f_hvar 0 (pv 0)) (by rfl) T.no_len)) (f_val f_int)) pss_bad pss_nil) (pss_cons (ps_if (ft_eq (c := ⟨fun _ => none, S, H⟩) room (f_val (f_len (f_hvar 0 (pv 0)) (by rfl) T.no_len)) (f_val f_int)) pss_bad pss_nil) (pss_cons (ps_if (ft_eq (c := ⟨fun _ => none, S, H⟩) room (f_val (f_len (f_hvar 0 (pv 0)) (by rfl) T.no_len)) (f_val f_int)) pss_bad pss_nil) (pss_cons (ps_if (ft_eq (c := ⟨fun _ => none, S, H⟩) room (f_val (f_len (f_hvar 0 (pv 0)) (by rfl) T.no_len)) (f_val f_int)) pss_bad pss_nil) (pss_one (ps_ret (StX.pe_makeR T.mk_Stairs (R_i base) room6 (by rfl) T.gl_Stairs (passes_call tk (E := E) fun _ _ _ _ h => h) (fa_cons (c := ⟨fun _ => none, S, H⟩) (f_item (f_hvar 0 (pv 0)) (f_val f_int) (fun _ _ => rfl)) (fa_cons (f_item (f_hvar 0 (pv 0)) (f_val f_int) (fun _ _ => rfl)) (fa_cons (f_item (f_hvar 0 (pv 0)) (f_val f_int) (fun _ _ => rfl)) (fa_cons (f_item (f_hvar 0 (pv 0)) (f_val f_int) (fun _ _ => rfl)) (fa_cons (f_item (f_hvar 0 (pv 0)) (f_val f_int) (fun _ _ => rfl)) fa_nil))))))))))))), ?_⟩
    refine ⟨S, _, _, _, E0', len_no [d0, d1, d2, d3, d4] 0 (by simp), fun S0 H0 E0 s0 => iteF ?_⟩
    have z0 : Same S S0 := s0
    refine ⟨S0, _, _, _, E0, len_no [d0, d1, d2, d3, d4] 1 (by simp), fun S1 H1 E1 s1 => iteF ?_⟩
    have z1 : Same S S1 := z0.trans s1
    refine ⟨S1, _, _, _, E1, len_no [d0, d1, d2, d3, d4] 2 (by simp), fun S2 H2 E2 s2 => iteF ?_⟩
    have z2 : Same S S2 := z1.trans s2
    refine ⟨S2, _, _, _, E2, len_no [d0, d1, d2, d3, d4] 3 (by simp), fun S3 H3 E3 s3 => iteF ?_⟩
    have z3 : Same S S3 := z2.trans s3
    refine ⟨S3, _, _, _, E3, len_no [d0, d1, d2, d3, d4] 4 (by simp), fun S4 H4 E4 s4 => iteF ?_⟩
    have z4 : Same S S4 := z3.trans s4
    exact ⟨S4, _, _, _, E4, args5 _ d0 d1 d2 d3 d4 rfl, fun S10 H10 us E10 s10 r10 => last S4 H4 E4 z4 S10 H10 us E10 s10 r10⟩
  · simp at h5
theorem sc__law_refused : FnScope N__law_refused ["values"] (defScope s__law_refused) := ⟨rfl, rfl, rfl, by decide +kernel, rfl, by decide +kernel, by decide +kernel⟩
abbrev Fd__law_refused (K : PySem.W.Frag) (fd : FuncData) : Prop := FunD K "_law_refused" "_law_refused" (defArgs s__law_refused) (defBody s__law_refused) (defScope s__law_refused) [] [] (He.ga K "_law_refused") fd
theorem bn__law_refused {fd : FuncData} (F : Fd__law_refused K fd) : Binds K fd ["values"] [] := F.bindsN fun _ _ _ _ _ _ us hl => match us, hl with | [_], _ => rfl
theorem ref_len (vs : List V) (H : Hp) (Q : VK) (E : XK) (h : spF K F__law_refused vs H Q E) : vs.length = 1 := by
  obtain ⟨L, S, env, d, env', E1, q, _⟩ := h
  have hl := E1.len
  unfold F__law_refused at q
  split at q
  · rw [List.length_map] at hl
    exact hl.symm
  · cases q
def hBody : Stmt → List Stmt
  | .Try _ (.ExceptHandler _ _ b _ :: _) _ _ _ => b
  | _ => []
def tSuite (K : PySem.W.Frag) (a : Addr) (cls : Value) (d : Option Addr) : TS := tDrop (tBM K "list" rAppend (tVar 1) (tCons (tIf (tB (tCB (rIsX (He.ga K "BadStairs") a cls d) (tCons (tVar 2) (tCons (tC (.ref (He.ga K "BadStairs"))) tNil)))) (tXf a cls d (He.ga K "BadStairs") "value" (tVar 2)) (tC (.str "another error"))) tNil))
theorem ok__law_refused (T : Tx K mg) : ∃ fd, (∀ base : Heap, FnG P w K mg base CX0 12 (He.ga K "_law_refused") fd ["values"] (spF K F__law_refused)) ∧ Fd__law_refused K fd := by
  obtain ⟨fd_g, R_g, D_g⟩ := rz_made (P := P) (w := w) T
  obtain ⟨fd, F⟩ := T.fn__law_refused
  refine ⟨fd, fun base => toG (F.ok sc__law_refused ref_len fun cdv A outer s H vs Q E room h => ?_), F⟩
  have nd := (sc__law_refused).nd
  have SU : ∀ (a : Addr) (oe : Obj) (cls : Value) (d : Option Addr) (pn : List (Addr × Obj)), Zc cls d oe → (∃ vs, oe.data = .fields vs) → PSs ((cxOf CX0 P w K mg base N__law_refused "_law_refused" (defScope s__law_refused) (He.ga K "_law_refused") cdv A outer s H E).suite a ((a, oe) :: pn)) (hBody ((defBody s__law_refused).getD 1 (.Pass ⟨0, 0, 0, 0⟩))) (tSuite K a cls d) := fun a oe cls d pn hz hf =>
    pss_one (ps_expr (pe_bm PySem.F.plainAttrs_list PySem.F.slot_list_append PySem.F.type_list_append mt_append (pv 1) (pa_cons (pe_ifExp (pt_val (pe_callB (call_isX T.ex_BadStairs T.ix_BadStairs hz hf) (by rfl) T.no_isinstance (by decide +kernel) (pa_cons (pv 2) (pa_cons (pe_glob (v := .ref (He.ga K "BadStairs")) (by rfl) T.gl_BadStairs rfl) pa_nil)))) (pe_xf T.ex_BadStairs.xf T.ex_BadStairs.non hz hf (pv 2)) pe_str) pa_nil)))
  refine ⟨_, pss_cons (ps_asg (pe_lst pa_nil) (pg_name (i := 1) nd rfl (Or.inl rfl)))
    (pss_cons (ps_try_as (i := 2) rfl rfl nd rfl rfl ⟨rfl, by decide, .inl T.gl_FreshError⟩ takes0
      (fun W pn xe tk _ => pss_one (ps_expr (pe_callS ((R_g base).mono (by decide)) room (by rfl) T.gl__law_made D_g.kp (bn__law_made D_g) (fun σ => passAt tk σ) (pa_cons (pv 0) pa_nil))))
      (fun a oe cls d pn hz hf => SU a oe cls d pn hz hf))
    (pss_one (ps_ret (pv 1)))), ?_⟩
  have hl := ref_len vs H Q E h
  obtain ⟨v0, rfl⟩ : ∃ a, vs = [a] := match vs, hl with | [a], _ => ⟨a, rfl⟩
  obtain ⟨L, S, env, d0, env', E1, q, kk⟩ := h
  unfold F__law_refused at q
  split at q
  · rename_i ds
    split at q
    · rename_i d hd
      split at q
      · rename_i hn
        cases q
        obtain ⟨k, fb, hk⟩ := badOf_first ds d hd
        obtain ⟨g, hg, rg⟩ := E1.sh 0 _ rfl
        cases hg
        refine ⟨Nat.zero_le _, fun p hp => ?_⟩
        have sp : S p = none := E1.sub.free hp
        have k1 : Same H (upd H p (.lst [])) := same_of hp (Same.refl _)
        refine ⟨v0, rfl, S, ds, k, v0, rfl, fun b o q => k1 b o (E1.sub b o q), rg, hn.1, hn.2, fb, fun H' dd v hs hd ⟨S', d', hS', sS', fr, hk', rv⟩ => ?_⟩
        rw [hk] at hk'; cases hk'
        refine ⟨true, T.em_Fresh, fun _ a ha => ?_, fun q => nomatch q⟩
        have p3 : H' p = some (.lst []) := hs _ _ upd_same
        have hpd : p ≠ dd := fun z => by subst z; rw [p3] at hd; cases hd
        have p3' : (upd H' dd (.xd [("value", v)])) p = some (.lst []) := by rw [upd_ne hpd]; exact p3
        refine ⟨.ref p, rfl, .inl ⟨rfl, _, .of p3'⟩, ?_⟩
        refine ⟨.ref a, rfl, ⟨rfl, rfl, ⟨dd, _, rfl, upd_same⟩, true, rfl, iteT ?_⟩⟩
        refine ⟨.ref a, rfl, rfl, rfl, dd, [("value", v)], v, rfl, upd_same, by simp [List.lookup], ?_⟩
        refine ⟨p, [], v, rfl, rfl, p3', by rw [sizeLine_eq]; decide, ?_⟩
        refine ⟨.ref p, rfl, ?_⟩
        have sp' : S' p = none := by
          cases z : S' p with
          | none => rfl
          | some o => rcases fr p (by rw [z]; exact fun z => nomatch z) with y | y
                      · exact absurd sp y
                      · rw [upd_same] at y; cases y
        have np : ∀ x o, H x = some o → x ≠ p := fun x o z e => by subst e; rw [hp] at z; cases z
        have nd' : ∀ x o, H' x = some o → x ≠ dd := fun x o z e => by subst e; rw [hd] at z; cases z
        have k2 : Same H (upd (upd H' dd (.xd [("value", v)])) p (.lst ([] ++ [v]))) := fun x o z => by
          have y := hs x o (k1 x o z)
          rw [upd_ne (np x o z), upd_ne (nd' x o y)]
          exact y
        have sub2 : Same (upd S' p (.lst [v])) (upd (upd H' dd (.xd [("value", v)])) p (.lst ([] ++ [v]))) := fun x u z => by
          by_cases hx : x = p
          · subst hx
            rw [upd_same] at z ⊢
            exact z
          · rw [upd_ne hx] at z
            have y := sS' x u z
            rw [upd_ne hx, upd_ne (nd' x u y)]
            exact y
        have s12 : Same S (upd S' p (.lst [v])) := hS'.trans (same_upd sp')
        have E2 := E1.grow s12 sub2 (fun x z => by
          cases y : H x with
          | none => exact absurd y z
          | some o => rw [k2 x o y]; exact fun z => nomatch z) k2 (fun x z => by
          by_cases hx : x = p
          · subst hx; exact .inr hp
          · rw [upd_ne hx] at z
            rcases fr x z with y | y
            · exact .inl y
            · rw [upd_ne hx] at y; exact .inr y)
        exact kk _ _ _ (ER.finish E1 E2 (Nat.le_refl _)) s12 (.lst upd_same (.cons (rv.mono (same_upd sp')) .nil))
      · cases q
    · cases q
  · cases q
theorem sc__law_tape : FnScope N__law_tape ["script", "start"] (defScope s__law_tape) := ⟨rfl, rfl, rfl, by decide +kernel, rfl, by decide +kernel, by decide +kernel⟩
abbrev Fd__law_tape (K : PySem.W.Frag) (fd : FuncData) : Prop := FunD K "_law_tape" "_law_tape" (defArgs s__law_tape) (defBody s__law_tape) (defScope s__law_tape) [] [] (He.ga K "_law_tape") fd
theorem bn__law_tape {fd : FuncData} (F : Fd__law_tape K fd) : Binds K fd ["script", "start"] [] := F.bindsN fun _ _ _ _ _ _ us hl => match us, hl with | [_, _], _ => rfl
theorem ok__law_tape (T : Tx K mg) : ∃ fd, (∀ base : Heap, FnG P w K mg base CX0 1 (He.ga K "_law_tape") fd ["script", "start"] (spO K F__law_tape)) ∧ Fd__law_tape K fd := by
  obtain ⟨fd, F⟩ := T.fn__law_tape
  refine ⟨fd, fun base => def_okO F sc__law_tape fun cdv A outer s H E c gu room => ?_, F⟩
  have nd := (sc__law_tape).nd
  exact (fs_cons (fs_asg (f_addA (f_val f_int) (f_val (f_mulA (f_hvar 1 (pv 1)) (f_val f_int)))) (fg_name (pg_name nd rfl (Or.inl rfl))))
    (fs_cons (fs_forL PassesOwn.never rfl (f_var 0 (pv 0)) (fg_name (pg_name nd rfl (Or.inl rfl))) (fs_one (fs_asg (f_addA (f_val (f_mod (f_pow (f_addA (f_val (f_addA (f_val (f_mulA (f_hvar 2 (pv 2)) (f_val f_int))) (f_val (f_mulA (f_hvar 3 (pv 3)) (f_hvar 3 (pv 3)))))) (f_val f_int)) f_int) f_int)) (f_val f_int)) (fg_name (pg_name nd rfl (Or.inl rfl))))))
    (fs_cons (fs_asg (f_if (PW.pt (fw_and (ft_lt (f_hvar 1 (pv 1)) (f_val (f_len (f_hvar 0 (pv 0)) (by rfl) T.no_len))) (fw_and1 (ft_ge (f_val (f_item (f_hvar 0 (pv 0)) (f_hvar 1 (pv 1)) (fun _ _ => rfl))) (f_val (f_pow f_int f_int)))))) (f_sub (f_item (f_hvar 0 (pv 0)) (f_hvar 1 (pv 1)) (fun _ _ => rfl)) (f_pow f_int f_int)) f_int) (fg_name (pg_name nd rfl (Or.inl rfl))))
    (fs_one (fs_retO (fo_dicN [("digits", 4), ("mixed", 2)] (pps_cons pe_str (pv 4) (pps_cons pe_str (pv 2) pps_nil)) rfl rfl (by simp) (by decide) (by decide) (by decide +kernel)))))))
theorem sc__law_pick : FnScope N__law_pick ["tape", "size"] (defScope s__law_pick) := ⟨rfl, rfl, rfl, by decide +kernel, rfl, by decide +kernel, by decide +kernel⟩
abbrev Fd__law_pick (K : PySem.W.Frag) (fd : FuncData) : Prop := FunD K "_law_pick" "_law_pick" (defArgs s__law_pick) (defBody s__law_pick) (defScope s__law_pick) [] [] (He.ga K "_law_pick") fd
theorem bn__law_pick {fd : FuncData} (F : Fd__law_pick K fd) : Binds K fd ["tape", "size"] [] := F.bindsN fun _ _ _ _ _ _ us hl => match us, hl with | [_, _], _ => rfl
theorem ok__law_pick (T : Tx K mg) : ∃ fd, (∀ base : Heap, FnG P w K mg base CX0 1 (He.ga K "_law_pick") fd ["tape", "size"] (spF K F__law_pick)) ∧ Fd__law_pick K fd := by
  obtain ⟨fd, F⟩ := T.fn__law_pick
  refine ⟨fd, fun base => def_ok F sc__law_pick fun cdv A outer s H E c gu room => ?_, F⟩
  have nd := (sc__law_pick).nd
  exact (fs_cons (fs_if (ft_ge (f_val (f_dget room (f_hvar 0 (pv 0)) (f_val f_str) (fun _ _ => rfl))) (f_hvar 1 (pv 1))) (fs_cons (fs_asg (f_mod (f_dget room (f_hvar 0 (pv 0)) (f_val f_str) (fun _ _ => rfl)) (f_var 1 (pv 1))) (fg_name (pg_name nd rfl (Or.inl rfl))))
    (fs_cons (fs_dput room (pv 0) (f_div (f_dget room (f_hvar 0 (pv 0)) (f_val f_str) (fun _ _ => rfl)) (f_var 1 (pv 1))))
    (fs_one (fs_ret (f_var 2 (pv 2)))))) fs_nil)
    (fs_cons (fs_dput room (pv 0) (f_mod (f_addA (f_val (f_mulA (f_val (f_dget room (f_hvar 0 (pv 0)) (f_val f_str) (fun _ _ => rfl))) (f_val f_int))) (f_val f_int)) f_int))
    (fs_one (fs_ret (f_mod (f_div (f_mod (f_pow (f_mod (f_pow (f_dget room (f_hvar 0 (pv 0)) (f_val f_str) (fun _ _ => rfl)) f_int) f_int) f_int) f_int) f_int) (f_var 1 (pv 1)))))))
theorem sc__law_one_of : FnScope N__law_one_of ["tape", "items"] (defScope s__law_one_of) := ⟨rfl, rfl, rfl, by decide +kernel, rfl, by decide +kernel, by decide +kernel⟩
abbrev Fd__law_one_of (K : PySem.W.Frag) (fd : FuncData) : Prop := FunD K "_law_one_of" "_law_one_of" (defArgs s__law_one_of) (defBody s__law_one_of) (defScope s__law_one_of) [] [] (He.ga K "_law_one_of") fd
theorem bn__law_one_of {fd : FuncData} (F : Fd__law_one_of K fd) : Binds K fd ["tape", "items"] [] := F.bindsN fun _ _ _ _ _ _ us hl => match us, hl with | [_, _], _ => rfl
theorem ok__law_one_of (T : Tx K mg) : ∃ fd, (∀ base : Heap, FnG P w K mg base CX0 2 (He.ga K "_law_one_of") fd ["tape", "items"] (spF K F__law_one_of)) ∧ Fd__law_one_of K fd := by
  obtain ⟨fd__law_pick, G__law_pick, D__law_pick⟩ := ok__law_pick (P := P) (w := w) T
  have b__law_pick := bn__law_pick D__law_pick
  have k__law_pick := D__law_pick.kp
  obtain ⟨fd, F⟩ := T.fn__law_one_of
  refine ⟨fd, fun base => def_ok F sc__law_one_of fun cdv A outer s H E c gu room => ?_, F⟩
  have nd := (sc__law_one_of).nd
  exact (fs_one (fs_ret (f_item (f_hvar 1 (pv 1)) (f_val (f_callO ((G__law_pick base).mono (by decide)) gu room (by rfl) T.gl__law_pick k__law_pick b__law_pick (pv 0) (fa_cons (f_len (f_hvar 1 (pv 1)) (by rfl) T.no_len) fa_nil))) (fun _ _ => rfl))))
theorem sc__law_pair : FnScope N__law_pair ["tape"] (defScope s__law_pair) := ⟨rfl, rfl, rfl, by decide +kernel, rfl, by decide +kernel, by decide +kernel⟩
abbrev Fd__law_pair (K : PySem.W.Frag) (fd : FuncData) : Prop := FunD K "_law_pair" "_law_pair" (defArgs s__law_pair) (defBody s__law_pair) (defScope s__law_pair) [] [] (He.ga K "_law_pair") fd
theorem bn__law_pair {fd : FuncData} (F : Fd__law_pair K fd) : Binds K fd ["tape"] [] := F.bindsN fun _ _ _ _ _ _ us hl => match us, hl with | [_], _ => rfl
theorem ok__law_pair (T : Tx K mg) : ∃ fd, (∀ base : Heap, FnG P w K mg base CX0 3 (He.ga K "_law_pair") fd ["tape"] (spF K F__law_pair)) ∧ Fd__law_pair K fd := by
  obtain ⟨fd__law_pick, G__law_pick, D__law_pick⟩ := ok__law_pick (P := P) (w := w) T
  have b__law_pick := bn__law_pick D__law_pick
  have k__law_pick := D__law_pick.kp
  obtain ⟨fd__law_one_of, G__law_one_of, D__law_one_of⟩ := ok__law_one_of (P := P) (w := w) T
  have b__law_one_of := bn__law_one_of D__law_one_of
  have k__law_one_of := D__law_one_of.kp
  obtain ⟨fd, F⟩ := T.fn__law_pair
  refine ⟨fd, fun base => def_ok F sc__law_pair fun cdv A outer s H E c gu room => ?_, F⟩
  have nd := (sc__law_pair).nd
  exact (fs_cons (fs_asg (f_callO ((G__law_pick base).mono (by decide)) gu room (by rfl) T.gl__law_pick k__law_pick b__law_pick (pv 0) (fa_cons f_int fa_nil)) (fg_name (pg_name nd rfl (Or.inl rfl))))
    (fs_cons (fs_asg (f_tup (fa_cons (f_var 1 (pv 1)) (fa_cons (f_addA (f_hvar 1 (pv 1)) (f_val (f_callO ((G__law_pick base).mono (by decide)) gu room (by rfl) T.gl__law_pick k__law_pick b__law_pick (pv 0) (fa_cons (f_callO ((G__law_one_of base).mono (by decide)) gu room (by rfl) T.gl__law_one_of k__law_one_of b__law_one_of (pv 0) (fa_cons (f_lst (fa_cons f_int (fa_cons f_int (fa_cons f_int fa_nil)))) fa_nil)) fa_nil)))) fa_nil))) (fg_name (pg_name nd rfl (Or.inl rfl))))
    (fs_one (fs_ret (f_callO ((G__law_one_of base).mono (by decide)) gu room (by rfl) T.gl__law_one_of k__law_one_of b__law_one_of (pv 0) (fa_cons (f_addA (f_val (f_mulA (f_val (f_lst (fa_cons (f_var 2 (pv 2)) fa_nil))) (f_val f_int))) (f_val (f_lst (fa_cons (f_tup (fa_cons f_int (fa_cons (f_pow f_int f_int) fa_nil))) (fa_cons (f_tup (fa_cons f_int (fa_cons f_int fa_nil))) (fa_cons (f_tup (fa_cons (f_pow f_int f_int) (fa_cons (f_pow f_int f_int) fa_nil))) fa_nil)))))) fa_nil))))))
theorem sc__law_pairs : FnScope N__law_pairs ["tape", "most"] (defScope s__law_pairs) := ⟨rfl, rfl, rfl, by decide +kernel, rfl, by decide +kernel, by decide +kernel⟩
abbrev Fd__law_pairs (K : PySem.W.Frag) (fd : FuncData) : Prop := FunD K "_law_pairs" "_law_pairs" (defArgs s__law_pairs) (defBody s__law_pairs) (defScope s__law_pairs) [] [] (He.ga K "_law_pairs") fd
theorem bn__law_pairs {fd : FuncData} (F : Fd__law_pairs K fd) : Binds K fd ["tape", "most"] [] := F.bindsN fun _ _ _ _ _ _ us hl => match us, hl with | [_, _], _ => rfl
theorem ok__law_pairs (T : Tx K mg) : ∃ fd, (∀ base : Heap, FnG P w K mg base CX0 4 (He.ga K "_law_pairs") fd ["tape", "most"] (spO K F__law_pairs)) ∧ Fd__law_pairs K fd := by
  obtain ⟨fd__law_pair, G__law_pair, D__law_pair⟩ := ok__law_pair (P := P) (w := w) T
  have b__law_pair := bn__law_pair D__law_pair
  have k__law_pair := D__law_pair.kp
  obtain ⟨fd__law_pick, G__law_pick, D__law_pick⟩ := ok__law_pick (P := P) (w := w) T
  have b__law_pick := bn__law_pick D__law_pick
  have k__law_pick := D__law_pick.kp
  obtain ⟨fd, F⟩ := T.fn__law_pairs
  refine ⟨fd, fun base => def_okO F sc__law_pairs fun cdv A outer s H E c gu room => ?_, F⟩
  have nd := (sc__law_pairs).nd
  exact (fs_one (fs_retO (fo_compR rfl nd (own := [("turn", 2)]) (blkOk_by (N := N__law_pairs) (sc := defScope s__law_pairs) (by decide +kernel)) (fa_cons (f_callO ((G__law_pick base).mono (by decide)) gu room (by rfl) T.gl__law_pick k__law_pick b__law_pick (pv 0) (fa_cons (f_addA (f_hvar 1 (pv 1)) (f_val f_int)) fa_nil)) fa_nil) (by rfl) T.no_range (fun _ _ _ _ _ => (tg_name (pg_name nd rfl (Or.inl rfl)) (by decide))) (fun _ _ _ _ _ => eT_nil) (fun _ _ _ _ _ => (eE_ok fun _ => (f_callO ((G__law_pair base).mono (by decide)) gu room (by rfl) T.gl__law_pair k__law_pair b__law_pair (pv 0) fa_nil))))))
theorem sc__law_any : FnScope N__law_any ["tape"] (defScope s__law_any) := ⟨rfl, rfl, rfl, by decide +kernel, rfl, by decide +kernel, by decide +kernel⟩
abbrev Fd__law_any (K : PySem.W.Frag) (fd : FuncData) : Prop := FunD K "_law_any" "_law_any" (defArgs s__law_any) (defBody s__law_any) (defScope s__law_any) [] [] (He.ga K "_law_any") fd
theorem bn__law_any {fd : FuncData} (F : Fd__law_any K fd) : Binds K fd ["tape"] [] := F.bindsN fun _ _ _ _ _ _ us hl => match us, hl with | [_], _ => rfl
theorem ok__law_any (T : Tx K mg) : ∃ fd, (∀ base : Heap, FnG P w K mg base CX0 3 (He.ga K "_law_any") fd ["tape"] (spF K F__law_any)) ∧ Fd__law_any K fd := by
  obtain ⟨fd__law_one_of, G__law_one_of, D__law_one_of⟩ := ok__law_one_of (P := P) (w := w) T
  have b__law_one_of := bn__law_one_of D__law_one_of
  have k__law_one_of := D__law_one_of.kp
  obtain ⟨fd, F⟩ := T.fn__law_any
  refine ⟨fd, fun base => def_ok F sc__law_any fun cdv A outer s H E c gu room => ?_, F⟩
  have nd := (sc__law_any).nd
  exact (fs_cons (fs_asg (f_lst (fa_cons f_non (fa_cons f_bl (fa_cons f_int (fa_cons f_int (fa_cons f_str (fa_cons f_str (fa_cons (f_tup fa_nil) (fa_cons (f_tup (fa_cons f_int fa_nil)) (fa_cons (f_tup (fa_cons f_int (fa_cons f_int (fa_cons f_int fa_nil)))) (fa_cons (f_lst (fa_cons f_int (fa_cons f_int fa_nil))) (fa_cons (fo_sh fo_dic0) (fa_cons (f_tup (fa_cons f_bl (fa_cons f_int fa_nil))) (fa_cons (f_tup (fa_cons f_int (fa_cons f_bl fa_nil))) (fa_cons (f_tup (fa_cons f_int (fa_cons f_int fa_nil))) (fa_cons (f_tup (fa_cons f_int (fa_cons f_int fa_nil))) fa_nil)))))))))))))))) (fg_name (pg_name nd rfl (Or.inl rfl))))
    (fs_one (fs_ret (f_callO ((G__law_one_of base).mono (by decide)) gu room (by rfl) T.gl__law_one_of k__law_one_of b__law_one_of (pv 0) (fa_cons (f_addA (f_hvar 1 (pv 1)) (f_val (f_lst (fa_cons (f_tup (fa_cons (f_neg f_int) (fa_cons f_int fa_nil))) (fa_cons (f_tup (fa_cons f_int (fa_cons (f_addA (f_val (f_pow f_int f_int)) (f_val f_int)) fa_nil))) (fa_cons (f_tup (fa_cons f_int (fa_cons f_str fa_nil))) (fa_cons (f_tup (fa_cons (f_tup (fa_cons f_int (fa_cons f_int fa_nil))) fa_nil)) (fa_cons (f_tup (fa_cons f_non (fa_cons f_int fa_nil))) (fa_cons (f_tup (fa_cons (f_lst (fa_cons f_int fa_nil)) (fa_cons f_int fa_nil))) (fa_cons (f_lst (fa_cons (f_lst fa_nil) fa_nil)) fa_nil)))))))))) fa_nil)))))
theorem sc_law : FnScope N_law ["script"] (defScope s_law) := ⟨rfl, rfl, rfl, by decide +kernel, rfl, by decide +kernel, by decide +kernel⟩
abbrev Fd_law (K : PySem.W.Frag) (fd : FuncData) : Prop := FunD K "law" "law" (defArgs s_law) (defBody s_law) (defScope s_law) [] [] (He.ga K "law") fd
theorem bn_law {fd : FuncData} (F : Fd_law K fd) : Binds K fd ["script"] [] := F.bindsN fun _ _ _ _ _ _ us hl => match us, hl with | [_], _ => rfl
theorem law_len (vs : List V) (H : Hp) (Q : VK) (E : XK) (h : spF K F_law vs H Q E) : vs.length = 1 := by
  obtain ⟨L, S, env, d, env', E1, q, _⟩ := h
  have hl := E1.len
  unfold F_law at q
  split at q
  · rw [List.length_map] at hl
    exact hl.symm
  · cases q
theorem ok_law (T : Tx K mg) : ∃ fd, (∀ base : Heap, FnG P w K mg base CX0 14 (He.ga K "law") fd ["script"] (spF K F_law)) ∧ Fd_law K fd := by
  obtain ⟨fd__law_refused, G__law_refused, D__law_refused⟩ := ok__law_refused (P := P) (w := w) T
  have b__law_refused := bn__law_refused D__law_refused
  have k__law_refused := D__law_refused.kp
  obtain ⟨fd__law_tape, G__law_tape, D__law_tape⟩ := ok__law_tape (P := P) (w := w) T
  have b__law_tape := bn__law_tape D__law_tape
  have k__law_tape := D__law_tape.kp
  obtain ⟨fd__law_pairs, G__law_pairs, D__law_pairs⟩ := ok__law_pairs (P := P) (w := w) T
  have b__law_pairs := bn__law_pairs D__law_pairs
  have k__law_pairs := D__law_pairs.kp
  obtain ⟨fd__law_any, G__law_any, D__law_any⟩ := ok__law_any (P := P) (w := w) T
  have b__law_any := bn__law_any D__law_any
  have k__law_any := D__law_any.kp
  obtain ⟨fd__law_pick, G__law_pick, D__law_pick⟩ := ok__law_pick (P := P) (w := w) T
  have b__law_pick := bn__law_pick D__law_pick
  have k__law_pick := D__law_pick.kp
  obtain ⟨fd_i, R_i, D_i⟩ := rz_init (P := P) (w := w) T
  obtain ⟨fd, F⟩ := T.fn_law
  refine ⟨fd, fun base => fnG F sc_law law_len fun cdv A outer s H vs Q E gu room h => ?_, F⟩
  have nd := (sc_law).nd
  obtain ⟨L, S, env, d0, env', E1, q, kk⟩ := h
  have F0 : FSt (cxOf CX0 P w K mg base N_law "law" (defScope s_law) (He.ga K "law") cdv A outer s H E).nox ⟨L, S, H⟩ ((defBody s_law).headD (.Pass ⟨0, 0, 0, 0⟩)) S0 := (fs_forR PassesOwn.never rfl (fa_cons (f_max2 rfl (fa_cons f_int (fa_cons (f_min2 rfl (fa_cons f_int (fa_cons (f_len (f_hvar 0 (pv 0)) (by rfl) T.no_len) fa_nil)) (by rfl) T.no_min) fa_nil)) (by rfl) T.no_max) fa_nil) (fg_name (pg_name nd rfl (Or.inl rfl))) (fs_cons (fs_own (fo_call ((G__law_tape base).mono (by decide)) gu room (by rfl) T.gl__law_tape k__law_tape b__law_tape (fa_cons (f_var 0 (pv 0)) (fa_cons (f_var 1 (pv 1)) fa_nil))) nd rfl (Or.inl rfl))
    (fs_one (fs_forR PassesOwn.never rfl (fa_cons f_int fa_nil) (fg_name (pg_name nd rfl (Or.inl rfl))) (fs_cons (fs_own (fo_callO ((G__law_pairs base).mono (by decide)) gu room (by rfl) T.gl__law_pairs k__law_pairs b__law_pairs (pv 4) (fa_cons f_int fa_nil)) nd rfl (Or.inl rfl))
    (fs_cons (fs_par (i := 8) (j := 9) rfl nd rfl rfl (by decide) rfl rfl (fa_cons (f_callO ((G__law_any base).mono (by decide)) gu room (by rfl) T.gl__law_any k__law_any b__law_any (pv 4) fa_nil) (fa_cons (f_callO ((G__law_any base).mono (by decide)) gu room (by rfl) T.gl__law_any k__law_any b__law_any (pv 4) fa_nil) fa_nil)) (by rfl))
    (fs_cons (fs_asg (f_callO ((G__law_pick base).mono (by decide)) gu room (by rfl) T.gl__law_pick k__law_pick b__law_pick (pv 4) (fa_cons (f_addA (f_val (f_len (f_hvar 7 (pv 7)) (by rfl) T.no_len)) (f_val f_int)) fa_nil)) (fg_name (pg_name nd rfl (Or.inl rfl))))
    (fs_cons (fs_insert (pv 7) (f_var 10 (pv 10)) (f_var 8 (pv 8)))
    (fs_cons (fs_if (ft_eq room (f_val (f_callO ((G__law_pick base).mono (by decide)) gu room (by rfl) T.gl__law_pick k__law_pick b__law_pick (pv 4) (fa_cons f_int fa_nil))) (f_val f_int)) (fs_one (fs_insert (pv 7) (f_addA (f_hvar 10 (pv 10)) (f_val f_int)) (f_var 9 (pv 9)))) fs_nil)
    (fs_one (fs_if (ft_ne room (f_val (f_repr gu room (f_val (f_call ((G__law_refused base).mono (by decide)) gu room (by rfl) T.gl__law_refused k__law_refused b__law_refused (fa_cons (f_var 7 (pv 7)) fa_nil))) (by rfl) T.no_repr)) (f_val (f_repr gu room (f_val (f_lst (fa_cons (f_var 8 (pv 8)) fa_nil))) (by rfl) T.no_repr))) (fs_one (fs_ret f_bl)) fs_nil))))))) (by rfl) T.no_range))) (by rfl) T.no_range)
  refine ⟨_, pss_cons (ps_lift F0) (pss_cons (ps_par (i := 2) (j := 3) rfl nd rfl rfl (by decide) rfl rfl (pa_cons (pe_lst (pa_cons pe_int pa_nil)) (pa_cons pe_non pa_nil)) (by rfl))
    (pss_cons (ps_try_as (i := 6) rfl rfl nd rfl rfl ⟨rfl, by decide, .inl T.gl_BadStairs⟩ takes0
      (fun W pn xe tk _ => pss_one (ps_expr (pe_makeS T.mk_Stairs (R_i base) (room.mono (by decide)) (by rfl) T.gl_Stairs (fun σ => passAt tk σ) (pa_cons (pe_tup (pa_cons pe_int (pa_cons pe_int pa_nil))) (pa_cons (pv 2) pa_nil)))))
      (fun a oe cls d pn hz hf => pss_one (ps_asg (pe_xf T.ex_BadStairs.xf T.ex_BadStairs.non hz hf (pv 6)) (pg_name (i := 3) nd rfl (Or.inl rfl)))))
    (pss_cons (ps_expr (pe_bm PySem.F.plainAttrs_list PySem.F.slot_list_append PySem.F.type_list_append mt_append (pv 2) (pa_cons pe_int pa_nil)))
    (pss_one (ps_ex (f := keptB) fun c => fs_ret (f_eq room (f_hvar 3 (pv 3)) (f_val (f_lst (fa_cons f_int (fa_cons f_int fa_nil)))))))))), ?_⟩
  unfold F_law at q
  split at q
  · rename_i dS
    split at q
    · rename_i e1 q0
      cases hd : decide (e1.length = 11) with
      | false => rw [hd] at q; cases q
      | true =>
        rw [hd] at q
        cases q
        have hl := of_decide_eq_true hd
        have Ln : ∀ i b, L i ≠ some b := fun i b z => by
          obtain ⟨_, d', hd'⟩ := E1.lnt i b z
          match i, hd' with
          | 0, z => cases z
          | n + 1, z => simp at z
        refine ⟨S, _, _, E1.start, q0, fun S1 H1 σ1 E1' s1 => ?_⟩
        have hσ : σ1.length = 11 := by rw [← E1'.len]; exact hl
        obtain ⟨a0, a1, a2, a3, a4, a5, a6, a7, a8, a9, a10, rfl⟩ : ∃ a0 a1 a2 a3 a4 a5 a6 a7 a8 a9 a10, σ1 = [a0, a1, a2, a3, a4, a5, a6, a7, a8, a9, a10] := match σ1, hσ with | [a0, a1, a2, a3, a4, a5, a6, a7, a8, a9, a10], _ => ⟨a0, a1, a2, a3, a4, a5, a6, a7, a8, a9, a10, rfl⟩
        have k0 : Same H H1 := fun x o z => E1'.kep x o z fun i => Ln i x
        have one : (1 : Nat) ≤ sizeLine := by rw [sizeLine_eq]; decide
        refine ⟨one, fun p hp => ?_⟩
        refine ⟨.ref p, .non, rfl, ?_⟩
        have np : ∀ x o, H1 x = some o → x ≠ p := fun x o z e => by subst e; rw [hp] at z; cases z
        have k1 : Same H1 (upd H1 p (.lst [.int 1])) := same_of hp (Same.refl _)
        refine ⟨by first | exact one | (rw [sizeLine_eq]; decide), fun t ht => ⟨.ref p, rfl, fun x dx hx hdx hne => ?_⟩⟩
        have htp : t ≠ p := fun z => by subst z; rw [upd_same] at ht; cases ht
        have p1 : (upd H1 p (.lst [.int 1])) p = some (.lst [.int 1]) := upd_same
        have k2 : Same (upd H1 p (.lst [.int 1])) (upd (upd H1 p (.lst [.int 1])) t (.tup [.int 0, .int 0])) := same_of ht (Same.refl _)
        have k3 : Same (upd (upd H1 p (.lst [.int 1])) t (.tup [.int 0, .int 0])) (upd (upd (upd (upd H1 p (.lst [.int 1])) t (.tup [.int 0, .int 0])) dx (.own x)) x (.ins (He.ga K "Stairs") dx [])) := same_of hx (same_of hdx (Same.refl _))
        have p2 := k2 _ _ p1
        have t2 : (upd (upd H1 p (.lst [.int 1])) t (.tup [.int 0, .int 0])) t = some (.tup [.int 0, .int 0]) := upd_same
        refine ⟨.ref x, [.ref t, .ref p], upd (upd H1 p (.lst [.int 1])) t (.tup [.int 0, .int 0]), [.tup [.int 0, .int 0], .lst [.int 1]], 1, rfl, Nat.le_trans (show 2 ≤ 5 by decide) (by rw [sizeLine_eq]; decide), k3, .cons (.tup (.inl t2) (.cons (.int 0) (.cons (.int 0) .nil))) (.cons (.lst p2 (.cons (.int 1) .nil)) .nil), bad_own, fun H' dd v hs hd hv => ?_⟩
        obtain rfl : V.ref p = v := Option.some.inj hv
        refine ⟨true, T.ex_BadStairs.self_, fun _ a ha => ?_, fun q => nomatch q⟩
        refine ⟨.ref a, rfl, rfl, rfl, dd, [("value", .ref p)], .ref p, rfl, upd_same, by simp [List.lookup], ?_⟩
        have hs' : Same H1 H' := fun x o z => hs x o (k3 x o (k2 x o (k1 x o z)))
        have p3 : H' p = some (.lst [.int 1]) := hs _ _ (k3 _ _ p2)
        have hdp : p ≠ dd := fun z => by subst z; rw [p3] at hd; cases hd
        have k5 : Same H1 (upd H' dd (.xd [("value", .ref p)])) := same_of (by
          cases z : H1 dd with
          | none => rfl
          | some o => rw [hs' dd o z] at hd; cases hd) hs'
        have p3' : (upd H' dd (.xd [("value", .ref p)])) p = some (.lst [.int 1]) := by rw [upd_ne hdp]; exact p3
        refine ⟨.ref p, rfl, .inl ⟨rfl, _, .of p3'⟩, p, [.int 1], .int 2, rfl, rfl, p3', Nat.lt_of_lt_of_le (by decide : (1 : Nat) < 2) (by rw [sizeLine_eq]; decide), ?_⟩
        have k4 : Same H1 (upd (upd H' dd (.xd [("value", .ref p)])) p (.lst ([.int 1] ++ [.int 2]))) := fun x o z => by
          rw [upd_ne (np x o z)]
          exact k5 x o z
        obtain ⟨e5, q5⟩ := kept_eq
        refine ⟨⟨fun _ => none, _, _⟩, _, [.un, .un, .un, .sh (.lst [.int 1, .int 2]), .un, .un, .un, .un, .un, .un, .un], .rt (.bl true) e5, ER.look (Same.refl _) rfl (fun i d z => ?_) (fun i f d z => ?_), q5, fun S' H5 σ' v E' s' r' => ?_⟩
        · match i, z with
          | 3, z => cases z; exact ⟨.ref p, rfl, .lst upd_same (.cons (.int 1) (.cons (.int 2) .nil))⟩
          | 0, z => cases z
          | 1, z => cases z
          | 2, z => cases z
          | 4, z => cases z
          | 5, z => cases z
          | 6, z => cases z
          | 7, z => cases z
          | 8, z => cases z
          | 9, z => cases z
          | 10, z => cases z
          | n + 11, z => simp at z
        · match i, z with
          | 0, z => cases z
          | 1, z => cases z
          | 2, z => cases z
          | 3, z => cases z
          | 4, z => cases z
          | 5, z => cases z
          | 6, z => cases z
          | 7, z => cases z
          | 8, z => cases z
          | 9, z => cases z
          | 10, z => cases z
          | n + 11, z => simp at z
        · have k6 : Same H H5 := fun x o z => E'.kep x o (k4 x o (k0 x o z)) fun _ y => nomatch y
          have E2 := E1.grow (Same.refl S) (fun x o z => k6 x o (E1.sub x o z)) (fun x z => by
            cases y : H x with
            | none => exact absurd y z
            | some o => rw [k6 x o y]; exact fun z => nomatch z) k6 fun x z => .inl z
          exact kk S H5 v (ER.finish E1 E2 (Nat.le_refl _)) (Same.refl S) (by cases r'; exact .bl true)
    · cases q
  · cases q
end
end K08

set_option Elab.async false
set_option linter.all false
set_option maxRecDepth 100000
set_option maxHeartbeats 4000000
namespace K08
open PySem PySem.Spec PyProof.Rows L2 FL PL
def dOf (p : Str × Option Str) (x y : Str) (s : Stmt) : He.DefD := ⟨p, x, y, defArgs s, defBody s, defScope s, [], []⟩
def fnL : List He.DefD := [dOf ("is_whole", none) "is_whole" "is_whole" s_is_whole, dOf ("is_day", none) "is_day" "is_day" s_is_day, dOf ("is_pair", none) "is_pair" "is_pair" s_is_pair, dOf ("BadStairs", some "__init__") "__init__" "BadStairs.__init__" s_BadStairs____init__, dOf ("Stairs", some "__init__") "__init__" "Stairs.__init__" s_Stairs____init__, dOf ("_law_made", none) "_law_made" "_law_made" s__law_made, dOf ("_law_refused", none) "_law_refused" "_law_refused" s__law_refused, dOf ("_law_tape", none) "_law_tape" "_law_tape" s__law_tape, dOf ("_law_pick", none) "_law_pick" "_law_pick" s__law_pick, dOf ("_law_one_of", none) "_law_one_of" "_law_one_of" s__law_one_of, dOf ("_law_pair", none) "_law_pair" "_law_pair" s__law_pair, dOf ("_law_pairs", none) "_law_pairs" "_law_pairs" s__law_pairs, dOf ("_law_any", none) "_law_any" "_law_any" s__law_any, dOf ("law", none) "law" "law" s_law]
def gsL : List Gt := []
def xsB (K : PySem.W.Frag) : Bool := (isxB K "BadStairs" && (decide (PySem.W.exmOne K (.ref (He.ga K "BadStairs")) (.ref (He.ga K "FreshError")) = some true) && (exfB K "BadStairs" "value" && true)))
def faL : List He.Fa := [.free "bool", .free "int", .free "isinstance", .free "len", .free "max", .free "min", .free "range", .free "repr", .free "tuple", .int "LAST_DAY" 1000000, .glo "is_whole", .glo "is_day", .glo "is_pair", .glo "_law_made", .glo "_law_refused", .glo "_law_tape", .glo "_law_pick", .glo "_law_one_of", .glo "_law_pair", .glo "_law_pairs", .glo "_law_any", .glo "law", .glo "Stairs", .cls "Stairs", .mkr "Stairs", .glo "BadStairs", .glo "FreshError"]
def lo1 : List Str := ["_wall", "FreshError", "BadStairs", "BadText", "LAST_DAY", "MOST_DIGITS", "is_whole", "is_day", "is_pair", "read_number", "Stairs", "_corners_among"]
def lo2 : List Str := ["_shared_pairs", "_pairs_told", "_law_tape", "_law_pick", "_law_one_of", "_law_pair", "_law_pairs", "_law_made", "_law_has", "_law_corners", "_law_any", "_law_refused"]
abbrev Rr : PySem.W.OpenRow := PySem.W.OpenLaw.row PySem.Challenge.rw_freshpromise_k08_wrong_pairs
abbrev hk : PySem.W.Hook := hookX 6 faL fnL gsL xsB
def ob (s : PySem.W.SharedT) : AlX := obsX 6 faL fnL gsL xsB (HandSHeadRun.getT s)
theorem ob_eq (s : PySem.W.SharedT) : ob s = hk.obs s.abs := obsX_eq (HandSHeadRun.getT_eq s)
theorem run (w : World) : HandSHeadRun.RunEq Rr (PySem.W.view Rr.prog [28]) hk ob 12000 (lo1 ++ lo2) w := by
  intro os; kernel_rfl
theorem tx {K : PySem.W.Frag} {h : Heap} {mg : Str → Option Value} (cx : SaysX faL fnL gsL xsB K) (X : K.In h) (G : h.Ns mainGlobals mg) : Tx K mg := by
  have c := cx.d
  have x0 := and_both cx.x
  have x1 := and_both x0.2
  have x2 := and_both x1.2
  exact {
    fn_is_whole := c.def_ 0 rfl
    fn_is_day := c.def_ 1 rfl
    fn_is_pair := c.def_ 2 rfl
    fn_BadStairs____init__ := c.def_ 3 rfl
    fn_Stairs____init__ := c.def_ 4 rfl
    fn__law_made := c.def_ 5 rfl
    fn__law_refused := c.def_ 6 rfl
    fn__law_tape := c.def_ 7 rfl
    fn__law_pick := c.def_ 8 rfl
    fn__law_one_of := c.def_ 9 rfl
    fn__law_pair := c.def_ 10 rfl
    fn__law_pairs := c.def_ 11 rfl
    fn__law_any := c.def_ 12 rfl
    fn_law := c.def_ 13 rfl
    no_bool := He.free_ok X G (c.fact 0 rfl)
    no_int := He.free_ok X G (c.fact 1 rfl)
    no_isinstance := He.free_ok X G (c.fact 2 rfl)
    no_len := He.free_ok X G (c.fact 3 rfl)
    no_max := He.free_ok X G (c.fact 4 rfl)
    no_min := He.free_ok X G (c.fact 5 rfl)
    no_range := He.free_ok X G (c.fact 6 rfl)
    no_repr := He.free_ok X G (c.fact 7 rfl)
    no_tuple := He.free_ok X G (c.fact 8 rfl)
    in_LAST_DAY := He.int_ok X G (c.fact 9 rfl)
    gl_is_whole := He.glo_ok X G (c.fact 10 rfl)
    gl_is_day := He.glo_ok X G (c.fact 11 rfl)
    gl_is_pair := He.glo_ok X G (c.fact 12 rfl)
    gl__law_made := He.glo_ok X G (c.fact 13 rfl)
    gl__law_refused := He.glo_ok X G (c.fact 14 rfl)
    gl__law_tape := He.glo_ok X G (c.fact 15 rfl)
    gl__law_pick := He.glo_ok X G (c.fact 16 rfl)
    gl__law_one_of := He.glo_ok X G (c.fact 17 rfl)
    gl__law_pair := He.glo_ok X G (c.fact 18 rfl)
    gl__law_pairs := He.glo_ok X G (c.fact 19 rfl)
    gl__law_any := He.glo_ok X G (c.fact 20 rfl)
    gl_law := He.glo_ok X G (c.fact 21 rfl)
    gl_Stairs := He.glo_ok X G (c.fact 22 rfl)
    cl_Stairs := He.cls_ok (c.fact 23 rfl)
    mk_Stairs := He.mkr_ok (c.fact 24 rfl)
    gl_BadStairs := He.glo_ok X G (c.fact 25 rfl)
    gl_FreshError := He.glo_ok X G (c.fact 26 rfl)
    ix_BadStairs := isxB_ok x0.1
    em_Fresh := of_decide_eq_true x1.1
    ex_BadStairs := exfB_ok x2.1
  }
end K08
open PySem PySem.W PySem.Calls PyProof.Rows
set_option maxHeartbeats 0 in
theorem PySem.Challenge.cw_freshpromise_k08_wrong_pairs_holds : PySem.Challenge.rw_freshpromise_k08_wrong_pairs.Holds := by
  w_on; o_law
  refine HandSHeadRun.head_any (r := OpenLaw.row PySem.Challenge.rw_freshpromise_k08_wrong_pairs) (q := view (OpenLaw.row PySem.Challenge.rw_freshpromise_k08_wrong_pairs).prog [28]) (H := K08.hk) (ob := K08.ob) (M := 12000) (loose := K08.lo1 ++ K08.lo2)
    (d := HandSHeadRun.topDef (OpenLaw.row PySem.Challenge.rw_freshpromise_k08_wrong_pairs).prog 28) (kwd := []) K08.ob_eq (by kernel_rfl) (fun s => by kernel_rfl) K08.run (by kernel_rfl) (by kernel_rfl) (by kernel_rfl) (by rfl) (by first | assumption | decide +kernel) (by decide +kernel) ⟨rfl, rfl, rfl, rfl, rfl, by decide +kernel⟩ ?hw ?hc
  case hw => w_witness2
  case hc =>
    refine FL.walkG (l := PySem.Challenge.rw_freshpromise_k08_wrong_pairs) (n := 63) (k := 14) (x := "script") rfl (by decide) (by kernel_rfl) ⟨rfl, by decide, by decide⟩ (fun w h Y => Y.2) ?F
    intro w mg fa h Y G hmg0
    obtain ⟨⟨K, KX, c⟩, _⟩ := Y
    have hmg : mg ("law" : PySem.Str) = some (.ref fa) := by
      have e : (HandSHeadRun.topDef (OpenLaw.row PySem.Challenge.rw_freshpromise_k08_wrong_pairs).prog 28).name = ("law" : PySem.Str) := by kernel_rfl
      rw [← e]
      exact hmg0
    have T := K08.tx c KX G
    obtain ⟨fd, F, Dl⟩ := K08.ok_law (P := (PySem.Challenge.rw_freshpromise_k08_wrong_pairs).prog) (w := w) T
    have ea := hmg.symm.trans T.gl_law
    cases ea
    have b := L2.FunD.bindsA (ps := ["script"]) Dl fun _ _ _ _ _ _ us hl => match us, hl with | [_], _ => rfl
    refine ⟨K, fd, FL.spF K K08.F_law, KX, fun s v => b s [v] rfl, fun H a ns hl hb hS => ?_, fun base _ _ => F base⟩
    obtain ⟨e', qq⟩ := K08.law_true ns hb hl
    exact ⟨fun _ => none, H, [.sh (.scr ns)], .bl true, e', FL.ER.args (ds := [.scr ns]) (vs := [.ref a]) (L2.Same.refl _) (.cons (.scr hS) .nil), qq, fun S' H' v E s r => by cases r; rfl⟩

