import PyProof.Rows.All
import Wide.All
import OpenK.AllK
import Wide.FinOn
import KE.KStateDown
import HandS.ForMost
import HandS.WordsExc
import HandS.Defaults
import HandS.WideBits
import HandS.HeadHook1
import HandS.HeadHook2
import HandS.EndBits
import HandS.TupAny
import HandS.IsInst
import HandS.Star
import HandS.Property
import HandS.OwnEq
import HandS.SortRule
import HandS.SortOrd
import HandS.ExcValue
import HandS.Iter
import HandS.Deep
import HandS.More
import HandS.Codes
import HandS.Small
import HandS.FStr
import HandS.StrMore
import HandS.NoneIn
import HandS.SetFor
import PyProof.Rows.RegCountFlat
import HandS.ClsMeth
import HandS.Head0
import HandS.Head1
import HandS.Head2
import HandS.Head3
import HandS.HeadEnd
import HandS.HeadNt
import PySem.Challenge.RW_freshpromise_k13_supply_and_demand
set_option Elab.async false
set_option linter.all false
set_option maxRecDepth 100000
set_option maxHeartbeats 2000000
namespace FL
open PySem PySem.Spec PyProof.Rows L2

/-! ## Data as trees -/
inductive D where
  | non | bl (b : Bool) | int (i : Int) | str (x : Str)
  | lst (xs : List D) | tup (xs : List D) | dic (kvs : List (Key × D)) | obj (c : Str) (fs : List (Str × D)) | scr (ns : List Int) | kls (c : Str)
instance : Inhabited D := ⟨.non⟩

/-- a tuple that is read: tracked, or an object of the module -/
def TpAt (K : PySem.W.Frag) (S : Hp) (a : Addr) (xs : List V) : Prop := S a = some (.tup xs) ∨
  ∃ (o : Obj) (its : Array Value) (n : Nat), K.lookup a = some o ∧ o.cls = .type "tuple" ∧ o.data = .seq its n ∧ its.size ≤ sizeLine ∧ Vals xs its.toList
theorem TpAt.sq {K : PySem.W.Frag} {S : Hp} {a : Addr} {xs : List V} (h : TpAt K S a xs) : SqT K S a xs := h.elim (fun z => .inl (.inl z)) .inr
theorem TpAt.same {K : PySem.W.Frag} {S S' : Hp} {a : Addr} {xs : List V} (h : TpAt K S a xs) (e : Same S S') : TpAt K S' a xs := h.elim (fun z => .inl (e _ _ z)) .inr
mutual
/-- d stands at v, in the part S of the heap that nobody changes any more -/
inductive RelD (K : PySem.W.Frag) (S : Hp) : D → V → Prop
  | non : RelD K S .non .non
  | bl (b : Bool) : RelD K S (.bl b) (.bl b)
  | int (i : Int) : RelD K S (.int i) (.int i)
  | str (x : Str) : RelD K S (.str x) (.str x)
  | kls (c : Str) : RelD K S (.kls c) (.ref (He.ga K c))
  | lst {a : Addr} {xs : List D} {vs : List V} : S a = some (.lst vs) → RelDs K S xs vs → RelD K S (.lst xs) (.ref a)
  | scr {a : Addr} {ns : List Int} : SqL K S a (ns.map V.int) → RelD K S (.scr ns) (.ref a)
  | tup {a : Addr} {xs : List D} {vs : List V} : TpAt K S a vs → RelDs K S xs vs → RelD K S (.tup xs) (.ref a)
  | dic {a : Addr} {xs : List (Key × D)} {vs : List (Key × V)} : S a = some (.dK vs) → RelKs K S xs vs → RelD K S (.dic xs) (.ref a)
  | obj {a dx : Addr} {c : Str} {xs : List (Str × D)} {vs : List (Str × V)} : S a = some (.ins (He.ga K c) dx vs) → RelFs K S xs vs → RelD K S (.obj c xs) (.ref a)
inductive RelDs (K : PySem.W.Frag) (S : Hp) : List D → List V → Prop
  | nil : RelDs K S [] []
  | cons {d : D} {ds : List D} {v : V} {vs : List V} : RelD K S d v → RelDs K S ds vs → RelDs K S (d :: ds) (v :: vs)
inductive RelKs (K : PySem.W.Frag) (S : Hp) : List (Key × D) → List (Key × V) → Prop
  | nil : RelKs K S [] []
  | cons {k : Key} {d : D} {ds : List (Key × D)} {v : V} {vs : List (Key × V)} : RelD K S d v → RelKs K S ds vs → RelKs K S ((k, d) :: ds) ((k, v) :: vs)
inductive RelFs (K : PySem.W.Frag) (S : Hp) : List (Str × D) → List (Str × V) → Prop
  | nil : RelFs K S [] []
  | cons {k : Str} {d : D} {ds : List (Str × D)} {v : V} {vs : List (Str × V)} : RelD K S d v → RelFs K S ds vs → RelFs K S ((k, d) :: ds) ((k, v) :: vs)
end

theorem sqT_same {K : PySem.W.Frag} {H H' : Hp} {a : Addr} {xs : List V} (e : Same H H') (h : SqT K H a xs) : SqT K H' a xs := by
  rcases h with (h | ⟨o, h⟩) | h
  · exact .inl (.inl (e _ _ h))
  · exact .inl (.inr ⟨o, e _ _ h⟩)
  · exact .inr h

section
variable {K : PySem.W.Frag} {S S' : Hp}
mutual
theorem RelD.mono (e : Same S S') : ∀ {d : D} {v : V}, RelD K S d v → RelD K S' d v
  | _, _, .non => .non
  | _, _, .bl b => .bl b
  | _, _, .int i => .int i
  | _, _, .str x => .str x
  | _, _, .kls x => .kls x
  | _, _, .lst h r => .lst (e _ _ h) (RelDs.mono e r)
  | _, _, .scr h => .scr (e.seq h)
  | _, _, .tup h r => .tup (h.same e) (RelDs.mono e r)
  | _, _, .dic h r => .dic (e _ _ h) (RelKs.mono e r)
  | _, _, .obj h r => .obj (e _ _ h) (RelFs.mono e r)
theorem RelDs.mono (e : Same S S') : ∀ {d : List D} {v : List V}, RelDs K S d v → RelDs K S' d v
  | _, _, .nil => .nil
  | _, _, .cons h r => .cons (RelD.mono e h) (RelDs.mono e r)
theorem RelKs.mono (e : Same S S') : ∀ {d : List (Key × D)} {v : List (Key × V)}, RelKs K S d v → RelKs K S' d v
  | _, _, .nil => .nil
  | _, _, .cons h r => .cons (RelD.mono e h) (RelKs.mono e r)
theorem RelFs.mono (e : Same S S') : ∀ {d : List (Str × D)} {v : List (Str × V)}, RelFs K S d v → RelFs K S' d v
  | _, _, .nil => .nil
  | _, _, .cons h r => .cons (RelD.mono e h) (RelFs.mono e r)
end
theorem RelDs.length : ∀ {ds : List D} {vs : List V}, RelDs K S ds vs → ds.length = vs.length
  | _, _, .nil => rfl
  | _, _, .cons _ r => congrArg (· + 1) (RelDs.length r)
theorem RelDs.get : ∀ {ds : List D} {vs : List V} {i : Nat} {d : D}, RelDs K S ds vs → ds[i]? = some d → ∃ v, vs[i]? = some v ∧ RelD K S d v
  | _, _, 0, d, .cons h r, e => by
    simp at e; subst e; exact ⟨_, rfl, h⟩
  | _, _, i + 1, d, .cons h r, e => by
    obtain ⟨v, a, b⟩ := RelDs.get (i := i) (d := d) r (by simpa using e)
    exact ⟨v, by simpa using a, b⟩
  | _, _, _, _, .nil, e => by simp at e
theorem RelDs.append : ∀ {ds es : List D} {vs us : List V}, RelDs K S ds vs → RelDs K S es us → RelDs K S (ds ++ es) (vs ++ us)
  | _, _, _, _, .nil, s => s
  | _, _, _, _, .cons h r, s => .cons h (RelDs.append r s)
theorem RelDs.take : ∀ {ds : List D} {vs : List V} (n : Nat), RelDs K S ds vs → RelDs K S (ds.take n) (vs.take n)
  | _, _, 0, _ => by simpa using RelDs.nil
  | _, _, _ + 1, .nil => .nil
  | _, _, n + 1, .cons h r => .cons h (RelDs.take n r)
theorem RelDs.drop : ∀ {ds : List D} {vs : List V} (n : Nat), RelDs K S ds vs → RelDs K S (ds.drop n) (vs.drop n)
  | _, _, 0, r => r
  | _, _, _ + 1, .nil => .nil
  | _, _, n + 1, .cons h r => RelDs.drop n r
theorem RelDs.set {d : D} {v : V} (h : RelD K S d v) : ∀ {ds : List D} {vs : List V} (i : Nat), RelDs K S ds vs → RelDs K S (ds.set i d) (vs.set i v)
  | _, _, _, .nil => .nil
  | _, _, 0, .cons _ r => .cons h r
  | _, _, i + 1, .cons q r => .cons q (RelDs.set h i r)
theorem RelDs.ints : ∀ {ns : List Int} {vs : List V}, RelDs K S (ns.map D.int) vs → vs = ns.map V.int
  | [], _, .nil => rfl
  | n :: ns, _, .cons h r => by
    cases h
    rw [RelDs.ints r]; rfl
theorem RelDs.of_ints : ∀ (ns : List Int), RelDs K S (ns.map D.int) (ns.map V.int)
  | [] => .nil
  | n :: ns => .cons (.int n) (RelDs.of_ints ns)
end

/-! ## The slots of a def -/
/-- a slot: without a value; a value that is shared; an object that this def alone may change (fr: it was made here, so it may be let go) -/
inductive Sl where
  | un | sh (d : D) | ow (fr : Bool) (d : D)
abbrev En := List Sl

/-- an own object stands at p -/
def OwnAt (K : PySem.W.Frag) (S H : Hp) (d : D) (p : Addr) : Prop := match d with
  | .lst ds => ∃ vs, H p = some (.lst vs) ∧ RelDs K S ds vs
  | .dic ds => ∃ vs, H p = some (.dK vs) ∧ RelKs K S ds vs
  | .obj c fs => ∃ dx vs, H p = some (.ins (He.ga K c) dx vs) ∧ RelFs K S fs vs
  | _ => False

structure ER (K : PySem.W.Frag) (L : Nat → Option Addr) (S0 H0 S H : Hp) (σ : L2.St) (env : En) : Prop where
  sub : Same S H
  len : env.length = σ.length
  sh : ∀ (i : Nat) (d : D), env[i]? = some (.sh d) → ∃ v, σ[i]? = some (some v) ∧ RelD K S d v
  ow : ∀ (i : Nat) (f : Bool) (d : D), env[i]? = some (.ow f d) → ∃ p, σ[i]? = some (some (.ref p)) ∧ OwnAt K S H d p ∧ S p = none ∧ (if f = true then H0 p = none else L i = some p)
  dis : ∀ (i j : Nat) (f g : Bool) (d e : D) (p : Addr), i ≠ j → env[i]? = some (.ow f d) → env[j]? = some (.ow g e) → σ[i]? = some (some (.ref p)) → σ[j]? ≠ some (some (.ref p))
  s0 : Same S0 S
  dom : ∀ b, H0 b ≠ none → H b ≠ none
  kep : ∀ b o, H0 b = some o → (∀ i, L i ≠ some b) → H b = some o
  frs : ∀ b, S b ≠ none → S0 b ≠ none ∨ H0 b = none
  lnt : ∀ (i : Nat) (p : Addr), L i = some p → σ[i]? = some (some (.ref p)) ∧ ∃ d, env[i]? = some (.ow false d)
  lsd : ∀ (i : Nat) (p : Addr), L i = some p → H0 p ≠ none

theorem OwnAt.there {K : PySem.W.Frag} {S H : Hp} {d : D} {p : Addr} (h : OwnAt K S H d p) : H p ≠ none := by
  cases d <;> first | exact h.elim | (obtain ⟨dx, vs, e, _⟩ := h; rw [e]; exact fun z => nomatch z) | (obtain ⟨vs, e, _⟩ := h; rw [e]; exact fun z => nomatch z)
theorem OwnAt.mono {K : PySem.W.Frag} {S S' H H' : Hp} {d : D} {p : Addr} (h : OwnAt K S H d p) (e : Same S S') (hp : H' p = H p) : OwnAt K S' H' d p := by
  cases d <;> first | exact h.elim | skip
  · obtain ⟨vs, q, r⟩ := h; exact ⟨vs, hp.trans q, r.mono e⟩
  · obtain ⟨vs, q, r⟩ := h; exact ⟨vs, hp.trans q, r.mono e⟩
  · obtain ⟨dx, vs, q, r⟩ := h; exact ⟨dx, vs, hp.trans q, r.mono e⟩
theorem OwnAt.rel {K : PySem.W.Frag} {S H : Hp} {d : D} {p : Addr} (h : OwnAt K S H d p) (hs : Same S H) : RelD K H d (.ref p) := by
  cases d <;> first | exact h.elim | skip
  · obtain ⟨vs, q, r⟩ := h; exact .lst q (r.mono hs)
  · obtain ⟨vs, q, r⟩ := h; exact .dic q (r.mono hs)
  · obtain ⟨dx, vs, q, r⟩ := h; exact .obj q (r.mono hs)

/-- a new object is laid, and nobody owns it -/
theorem ER.laid {K : PySem.W.Frag} {L : Nat → Option Addr} {S0 H0 S H : Hp} {σ : L2.St} {env : En} (h : ER K L S0 H0 S H σ env) {p : Addr} (o : HO) (hp : H p = none) : ER K L S0 H0 (upd S p o) (upd H p o) σ env := by
  have hS : S p = none := h.sub.free hp
  have e1 : Same S (upd S p o) := fun b u q => by rw [upd_ne (ne_of_none q hS)]; exact q
  have ne : ∀ b, H b ≠ none → b ≠ p := fun b q z => by subst z; exact q hp
  refine ⟨fun b u q => ?_, h.len, fun i d q => ?_, fun i f d q => ?_, h.dis, fun b u q => e1 b u (h.s0 b u q), fun b q => ?_, fun b u q r => ?_, fun b q => ?_, h.lnt, h.lsd⟩
  · by_cases hb : b = p
    · subst hb; rw [upd_same] at q ⊢; exact q
    · rw [upd_ne hb] at q ⊢; exact h.sub b u q
  · obtain ⟨v, a, r⟩ := h.sh i d q
    exact ⟨v, a, r.mono e1⟩
  · obtain ⟨a, x, y, z, w⟩ := h.ow i f d q
    have na := ne a y.there
    exact ⟨a, x, y.mono e1 (upd_ne na), by rw [upd_ne na]; exact z, w⟩
  · rw [upd_ne (ne b (h.dom b q))]; exact h.dom b q
  · have z := h.kep b u q r
    rw [upd_ne (ne_of_none z hp)]; exact z
  · by_cases hb : b = p
    · subst hb
      refine .inr ?_
      cases e : H0 b with
      | none => rfl
      | some u => exact absurd hp (h.dom b (by rw [e]; exact fun z => nomatch z))
    · rw [upd_ne hb] at q; exact h.frs b q
theorem same_upd {S : Hp} {p : Addr} {o : HO} (hS : S p = none) : Same S (upd S p o) := fun b u q => by rw [upd_ne (ne_of_none q hS)]; exact q
/-- a new object is laid that slot i is to own -/
theorem ER.lay {K : PySem.W.Frag} {L : Nat → Option Addr} {S0 H0 S H : Hp} {σ : L2.St} {env : En} (h : ER K L S0 H0 S H σ env) {p : Addr} (o : HO) (hp : H p = none) : ER K L S0 H0 S (upd H p o) σ env := by
  have hS : S p = none := h.sub.free hp
  have ne : ∀ b, H b ≠ none → b ≠ p := fun b q z => by subst z; exact q hp
  refine ⟨fun b u q => ?_, h.len, h.sh, fun i f d q => ?_, h.dis, h.s0, fun b q => ?_, fun b u q r => ?_, h.frs, h.lnt, h.lsd⟩
  · rw [upd_ne (ne_of_none q hS)]; exact h.sub b u q
  · obtain ⟨a, x, y, z, w⟩ := h.ow i f d q
    exact ⟨a, x, y.mono (Same.refl _) (upd_ne (ne a y.there)), z, w⟩
  · rw [upd_ne (ne b (h.dom b q))]; exact h.dom b q
  · have z := h.kep b u q r
    rw [upd_ne (ne_of_none z hp)]; exact z
/-- slot i is given a shared value -/
theorem ER.put {K : PySem.W.Frag} {L : Nat → Option Addr} {S0 H0 S H : Hp} {σ : L2.St} {env : En} (h : ER K L S0 H0 S H σ env) {i : Nat} {d : D} {v : V} (hL : ∀ e, env[i]? ≠ some (.ow false e)) (r : RelD K S d v) : ER K L S0 H0 S H (σ.set i (some v)) (env.set i (.sh d)) := by
  have hLi : ∀ p, L i ≠ some p := fun p z => by obtain ⟨_, e, q⟩ := h.lnt i p z; exact hL e q
  refine ⟨h.sub, by simp [h.len], fun j e q => ?_, fun j f e q => ?_, fun j k f g d' e p hjk q1 q2 q3 => ?_, h.s0, h.dom, h.kep, h.frs, fun j p q => ?_, h.lsd⟩
  · by_cases hj : j = i
    · subst hj
      have hl : j < env.length := by
        have := (List.getElem?_eq_some_iff.mp q).1; simpa using this
      rw [List.getElem?_set_self hl] at q
      cases q
      exact ⟨v, List.getElem?_set_self (by rw [← h.len]; exact hl), r⟩
    · rw [List.getElem?_set_ne (Ne.symm hj)] at q ⊢
      exact h.sh j e q
  · by_cases hj : j = i
    · subst hj
      have hl : j < env.length := by
        have := (List.getElem?_eq_some_iff.mp q).1; simpa using this
      rw [List.getElem?_set_self hl] at q
      cases q
    · rw [List.getElem?_set_ne (Ne.symm hj)] at q ⊢
      exact h.ow j f e q
  · have aux : ∀ (j : Nat) (f : Bool) (e : D), (env.set i (Sl.sh d))[j]? = some (.ow f e) → j ≠ i ∧ env[j]? = some (.ow f e) := fun j f e q => by
      by_cases hj : j = i
      · subst hj
        have hl : j < env.length := by
          have := (List.getElem?_eq_some_iff.mp q).1; simpa using this
        rw [List.getElem?_set_self hl] at q
        cases q
      · rw [List.getElem?_set_ne (Ne.symm hj)] at q; exact ⟨hj, q⟩
    obtain ⟨n1, q1⟩ := aux j f d' q1
    obtain ⟨n2, q2⟩ := aux k g e q2
    rw [List.getElem?_set_ne (Ne.symm n1)] at q3
    rw [List.getElem?_set_ne (Ne.symm n2)]
    exact h.dis j k f g d' e p hjk q1 q2 q3
  · have hj : j ≠ i := fun z => by subst z; exact hLi p q
    rw [List.getElem?_set_ne (Ne.symm hj), List.getElem?_set_ne (Ne.symm hj)]
    exact h.lnt j p q
/-- slot i is given an object of its own -/
theorem ER.putOwn {K : PySem.W.Frag} {L : Nat → Option Addr} {S0 H0 S H : Hp} {σ : L2.St} {env : En} (h : ER K L S0 H0 S H σ env) {i : Nat} {d : D} {p : Addr} (hL : ∀ e, env[i]? ≠ some (.ow false e)) (r : OwnAt K S H d p) (hS : S p = none) (hH : H0 p = none)
    (hn : ∀ j f e, j ≠ i → env[j]? = some (.ow f e) → σ[j]? ≠ some (some (.ref p))) : ER K L S0 H0 S H (σ.set i (some (.ref p))) (env.set i (.ow true d)) := by
  have hLi : ∀ p, L i ≠ some p := fun p z => by obtain ⟨_, e, q⟩ := h.lnt i p z; exact hL e q
  have aux : ∀ (j : Nat) (f : Bool) (e : D), (env.set i (Sl.ow true d))[j]? = some (.ow f e) → (j = i ∧ i < env.length ∧ f = true ∧ e = d) ∨ (j ≠ i ∧ env[j]? = some (.ow f e)) := fun j f e q => by
    by_cases hj : j = i
    · subst hj
      have hl : j < env.length := by
        have := (List.getElem?_eq_some_iff.mp q).1; simpa using this
      rw [List.getElem?_set_self hl] at q
      cases q
      exact .inl ⟨rfl, hl, rfl, rfl⟩
    · rw [List.getElem?_set_ne (Ne.symm hj)] at q; exact .inr ⟨hj, q⟩
  refine ⟨h.sub, by simp [h.len], fun j e q => ?_, fun j f e q => ?_, fun j k f g d' e p' hjk q1 q2 q3 => ?_, h.s0, h.dom, h.kep, h.frs, fun j p q => ?_, h.lsd⟩
  · by_cases hj : j = i
    · subst hj
      have hl : j < env.length := by
        have := (List.getElem?_eq_some_iff.mp q).1; simpa using this
      rw [List.getElem?_set_self hl] at q
      cases q
    · rw [List.getElem?_set_ne (Ne.symm hj)] at q ⊢
      exact h.sh j e q
  · rcases aux j f e q with ⟨rfl, hl, rfl, rfl⟩ | ⟨hj, q⟩
    · exact ⟨p, List.getElem?_set_self (by rw [← h.len]; exact hl), r, hS, by rw [if_pos rfl]; exact hH⟩
    · rw [List.getElem?_set_ne (Ne.symm hj)]
      exact h.ow j f e q
  · rcases aux j f d' q1 with ⟨rfl, hl, rfl, rfl⟩ | ⟨n1, r1⟩
    · rcases aux k g e q2 with ⟨rfl, _, _, _⟩ | ⟨n2, r2⟩
      · exact absurd rfl hjk
      · rw [List.getElem?_set_self (by rw [← h.len]; exact hl)] at q3
        cases q3
        rw [List.getElem?_set_ne (Ne.symm n2)]
        exact hn k g e n2 r2
    · rw [List.getElem?_set_ne (Ne.symm n1)] at q3
      rcases aux k g e q2 with ⟨rfl, hl, _, _⟩ | ⟨n2, r2⟩
      · intro z
        rw [List.getElem?_set_self (by rw [← h.len]; exact hl)] at z
        cases z
        exact hn j f d' n1 r1 q3
      · rw [List.getElem?_set_ne (Ne.symm n2)]
        exact h.dis j k f g d' e p' hjk r1 r2 q3
  · have hj : j ≠ i := fun z => by subst z; exact hLi p q
    rw [List.getElem?_set_ne (Ne.symm hj), List.getElem?_set_ne (Ne.symm hj)]
    exact h.lnt j p q
/-- the own object of slot i is changed -/
theorem ER.chg {K : PySem.W.Frag} {L : Nat → Option Addr} {S0 H0 S H H' : Hp} {σ : L2.St} {env : En} (h : ER K L S0 H0 S H σ env) {i : Nat} {f : Bool} {d d' : D} {p : Addr} (hi : env[i]? = some (.ow f d)) (hp : σ[i]? = some (some (.ref p)))
    (hH : ∀ b, b ≠ p → H' b = H b) (r : OwnAt K S H' d' p) : ER K L S0 H0 S H' σ (env.set i (.ow f d')) := by
  obtain ⟨p', e1, o1, sp, fl⟩ := h.ow i f d hi
  rw [hp] at e1
  cases e1
  have hl : i < env.length := (List.getElem?_eq_some_iff.mp hi).1
  have aux : ∀ (j : Nat) (g : Bool) (e : D), (env.set i (Sl.ow f d'))[j]? = some (.ow g e) → (j = i ∧ g = f ∧ e = d') ∨ (j ≠ i ∧ env[j]? = some (.ow g e)) := fun j g e q => by
    by_cases hj : j = i
    · subst hj
      rw [List.getElem?_set_self hl] at q
      cases q
      exact .inl ⟨rfl, rfl, rfl⟩
    · rw [List.getElem?_set_ne (Ne.symm hj)] at q; exact .inr ⟨hj, q⟩
  have old : ∀ (j : Nat) (g : Bool) (e : D), (env.set i (Sl.ow f d'))[j]? = some (.ow g e) → ∃ e', env[j]? = some (.ow g e') := fun j g e q => by
    rcases aux j g e q with ⟨rfl, rfl, _⟩ | ⟨_, q⟩
    · exact ⟨d, hi⟩
    · exact ⟨e, q⟩
  refine ⟨fun b u q => ?_, by simp [h.len], fun j e q => ?_, fun j g e q => ?_, fun j k g g' e e' p' hjk q1 q2 q3 => ?_, h.s0, fun b q => ?_, fun b u q q2 => ?_, h.frs, fun j p' q => ?_, h.lsd⟩
  · rw [hH b (fun z => by subst z; rw [sp] at q; cases q)]; exact h.sub b u q
  · have hj : j ≠ i := fun z => by subst z; rw [List.getElem?_set_self hl] at q; cases q
    rw [List.getElem?_set_ne (Ne.symm hj)] at q
    exact h.sh j e q
  · rcases aux j g e q with ⟨rfl, rfl, rfl⟩ | ⟨hj, q⟩
    · exact ⟨p, hp, r, sp, fl⟩
    · obtain ⟨a, x, y, z, w⟩ := h.ow j g e q
      refine ⟨a, x, y.mono (Same.refl _) (hH a fun z => ?_), z, w⟩
      subst z
      exact h.dis i j f g d e a (Ne.symm hj) hi q hp x
  · obtain ⟨e1, q1⟩ := old j g e q1
    obtain ⟨e2, q2⟩ := old k g' e' q2
    exact h.dis j k g g' e1 e2 p' hjk q1 q2 q3
  · by_cases hb : b = p
    · subst hb; exact r.there
    · rw [hH b hb]; exact h.dom b q
  · by_cases hb : b = p
    · subst hb
      cases f with
      | true => rw [if_pos rfl] at fl; rw [fl] at q; cases q
      | false => rw [if_neg (by decide)] at fl; exact absurd fl (q2 i)
    · rw [hH b hb]; exact h.kep b u q q2
  · obtain ⟨a, e, b⟩ := h.lnt j p' q
    refine ⟨a, ?_⟩
    by_cases hj : j = i
    · subst hj
      rw [hi] at b
      cases b
      exact ⟨d', List.getElem?_set_self hl⟩
    · rw [List.getElem?_set_ne (Ne.symm hj)]; exact ⟨e, b⟩
/-- the own object of slot i is let go: from now on nobody changes it -/
theorem ER.freeze {K : PySem.W.Frag} {L : Nat → Option Addr} {S0 H0 S H : Hp} {σ : L2.St} {env : En} (h : ER K L S0 H0 S H σ env) {i : Nat} {d : D} (hi : env[i]? = some (.ow true d)) :
    ∃ S' p, ER K L S0 H0 S' H σ (env.set i (.sh d)) ∧ Same S S' ∧ σ[i]? = some (some (.ref p)) ∧ RelD K S' d (.ref p) := by
  obtain ⟨p, e1, o1, sp, fl⟩ := h.ow i true d hi
  rw [if_pos rfl] at fl
  have hl : i < env.length := (List.getElem?_eq_some_iff.mp hi).1
  cases eo : H p with
  | none => exact absurd eo o1.there
  | some ob =>
    have e2 : Same S (upd S p ob) := same_upd sp
    have rd : RelD K (upd S p ob) d (.ref p) := by
      cases d <;> first | exact o1.elim | skip
      · obtain ⟨vs, q, r⟩ := o1
        rw [eo] at q; cases q
        exact .lst upd_same (r.mono e2)
      · obtain ⟨vs, q, r⟩ := o1
        rw [eo] at q; cases q
        exact .dic upd_same (r.mono e2)
      · obtain ⟨dx, vs, q, r⟩ := o1
        rw [eo] at q; cases q
        exact .obj upd_same (r.mono e2)
    refine ⟨upd S p ob, p, ⟨fun b u q => ?_, by simp [h.len], fun j e q => ?_, fun j g e q => ?_, fun j k g g' e e' p' hjk q1 q2 q3 => ?_, fun b u q => e2 b u (h.s0 b u q), h.dom, h.kep, fun b q => ?_, fun j p' q => ?_, h.lsd⟩, e2, e1, rd⟩
    · by_cases hb : b = p
      · subst hb; rw [upd_same] at q; rw [eo]; exact q
      · rw [upd_ne hb] at q; exact h.sub b u q
    · by_cases hj : j = i
      · subst hj
        rw [List.getElem?_set_self hl] at q
        cases q
        exact ⟨_, e1, rd⟩
      · rw [List.getElem?_set_ne (Ne.symm hj)] at q
        obtain ⟨v, a, b⟩ := h.sh j e q
        exact ⟨v, a, b.mono e2⟩
    · have hj : j ≠ i := fun z => by subst z; rw [List.getElem?_set_self hl] at q; cases q
      rw [List.getElem?_set_ne (Ne.symm hj)] at q
      obtain ⟨a, x, y, z, w⟩ := h.ow j g e q
      refine ⟨a, x, y.mono e2 rfl, ?_, w⟩
      rw [upd_ne fun z => ?_]
      · exact z
      · subst z
        exact h.dis i j true g d e a (Ne.symm hj) hi q e1 x
    · have aux : ∀ (j : Nat) (g : Bool) (e : D), (env.set i (Sl.sh d))[j]? = some (.ow g e) → env[j]? = some (.ow g e) := fun j g e q => by
        have hj : j ≠ i := fun z => by subst z; rw [List.getElem?_set_self hl] at q; cases q
        rw [List.getElem?_set_ne (Ne.symm hj)] at q; exact q
      exact h.dis j k g g' e e' p' hjk (aux _ _ _ q1) (aux _ _ _ q2) q3
    · by_cases hb : b = p
      · subst hb; exact .inr fl
      · rw [upd_ne hb] at q; exact h.frs b q
    · obtain ⟨a, e, b⟩ := h.lnt j p' q
      refine ⟨a, e, ?_⟩
      have hj : j ≠ i := fun z => by subst z; rw [hi] at b; cases b
      rw [List.getElem?_set_ne (Ne.symm hj)]; exact b
end FL

set_option Elab.async false
set_option linter.all false
set_option maxRecDepth 100000
set_option maxHeartbeats 2000000
namespace FL
open PySem PySem.Spec PyProof.Rows L2

/-! ## Readings by functions of the slots -/
abbrev M (α : Type) := En → Option (α × En)
/-- the slots that are lent, the parts of the heap at the def's entry -/
structure Ct where
  L : Nat → Option Addr
  S0 : Hp
  H0 : Hp
abbrev Er (K : PySem.W.Frag) (c : Ct) (S H : Hp) (σ : L2.St) (env : En) : Prop := ER K c.L c.S0 c.H0 S H σ env

/-- a value, or a slot whose object is looked at later -/
inductive Hd where
  | val (d : D) | slot (i : Nat)
def deref (env : En) : Hd → Option D
  | .val d => some d
  | .slot i => match env[i]? with
    | some (.sh d) => some d
    | some (.ow _ d) => some d
    | _ => none
def RelH (K : PySem.W.Frag) (S : Hp) (σ : L2.St) (h : Hd) (v : V) : Prop := match h with
  | .val d => RelD K S d v
  | .slot i => σ[i]? = some (some v)
/-- d is to be seen at v -/
def Vw (K : PySem.W.Frag) (S H : Hp) (d : D) (v : V) : Prop := RelD K S d v ∨ ∃ p, v = .ref p ∧ OwnAt K S H d p

def tM (K : PySem.W.Frag) (c : Ct) (f : M D) : TE := fun σ H Q => ∃ S env d env', Er K c S H σ env ∧ f env = some (d, env') ∧ ∀ S' H' v, Er K c S' H' σ env' → Same S S' → RelD K S' d v → Q v H'
def tH (K : PySem.W.Frag) (c : Ct) (f : M Hd) : TE := fun σ H Q => ∃ S env d env', Er K c S H σ env ∧ f env = some (d, env') ∧ ∀ S' H' v, Er K c S' H' σ env' → Same S S' → RelH K S' σ d v → Q v H'
def tMs (K : PySem.W.Frag) (c : Ct) (f : M (List D)) : TA := fun σ H Q => ∃ S env d env', Er K c S H σ env ∧ f env = some (d, env') ∧ ∀ S' H' v, Er K c S' H' σ env' → Same S S' → RelDs K S' d v → Q v H'
/-- a new object that nobody holds yet -/
def tO (K : PySem.W.Frag) (c : Ct) (f : M D) : TE := fun σ H Q => ∃ S env d env', Er K c S H σ env ∧ f env = some (d, env') ∧ ∀ S' H' p, Er K c S' H' σ env' → Same S S' → OwnAt K S' H' d p → S' p = none → c.H0 p = none →
  (∀ (j : Nat) (f : Bool) (e : D), env'[j]? = some (.ow f e) → σ[j]? ≠ some (some (.ref p))) → Q (.ref p) H'
def tMT (K : PySem.W.Frag) (c : Ct) (f : M Bool) : TT := fun σ H Q => ∃ S env d env', Er K c S H σ env ∧ f env = some (d, env') ∧ ∀ S' H', Er K c S' H' σ env' → Same S S' → Q d H'

inductive Out where
  | nx (e : En) | rt (d : D) (e : En) | bk (e : En) | ct (e : En) | ro (d : D) (e : En)
abbrev FS := En → Option Out
def oK (K : PySem.W.Frag) (c : Ct) (S : Hp) (D' : Ends) : Out → Prop
  | .nx e => ∀ S' H' σ', Er K c S' H' σ' e → Same S S' → D'.nx σ' H'
  | .rt d e => ∀ S' H' σ' v, Er K c S' H' σ' e → Same S S' → RelD K S' d v → D'.rt v H'
  | .bk e => ∀ S' H' σ', Er K c S' H' σ' e → Same S S' → D'.bk σ' H'
  | .ct e => ∀ S' H' σ', Er K c S' H' σ' e → Same S S' → D'.ct σ' H'
  | .ro d e => ∀ S' H' σ' p, Er K c S' H' σ' e → Same S S' → OwnAt K S' H' d p → S' p = none → c.H0 p = none → D'.rt (.ref p) H'
def tS (K : PySem.W.Frag) (c : Ct) (f : FS) : TS := fun D' σ H => ∃ S env o, Er K c S H σ env ∧ f env = some o ∧ oK K c S D' o
/-- a target is given a value -/
abbrev FG := D → En → Option En
def tG (K : PySem.W.Frag) (c : Ct) (f : FG) : TG := fun v σ H Q => ∃ S env d e', Er K c S H σ env ∧ RelD K S d v ∧ f d env = some e' ∧ ∀ σ' S' H', Er K c S' H' σ' e' → Same S S' → Q σ' H'

abbrev FE (X : Cx) (c : Ct) (e : Expr) (f : M D) : Prop := PE X e (tM X.K c f)
abbrev FH (X : Cx) (c : Ct) (e : Expr) (f : M Hd) : Prop := PE X e (tH X.K c f)
abbrev FO (X : Cx) (c : Ct) (e : Expr) (f : M D) : Prop := PE X e (tO X.K c f)
abbrev FA (X : Cx) (c : Ct) (es : List Expr) (f : M (List D)) : Prop := PA X es (tMs X.K c f)
abbrev FT (X : Cx) (c : Ct) (e : Expr) (f : M Bool) : Prop := PT X e (tMT X.K c f)
abbrev FSt (X : Cx) (c : Ct) (st : Stmt) (f : FS) : Prop := PS X st (tS X.K c f)
abbrev FSs (X : Cx) (c : Ct) (st : List Stmt) (f : FS) : Prop := PSs X st (tS X.K c f)
abbrev FGt (X : Cx) (c : Ct) (e : Expr) (f : FG) : Prop := PG X e (tG X.K c f)

theorem _root_.L2.PE.weak {X : Cx} {e : Expr} {t t' : TE} (h : PE X e t) (w : ∀ σ H Q, t' σ H Q → t σ H Q) : PE X e t' := ⟨fun pins s σ H Q I q => h.run pins s σ H Q I (w σ H Q q)⟩
theorem _root_.L2.PA.weak {X : Cx} {e : List Expr} {t t' : TA} (h : PA X e t) (w : ∀ σ H Q, t' σ H Q → t σ H Q) : PA X e t' := ⟨fun pos pins s σ H Q I q => h.run pos pins s σ H Q I (w σ H Q q)⟩
theorem _root_.L2.PT.weak {X : Cx} {e : Expr} {t t' : TT} (h : PT X e t) (w : ∀ σ H Q, t' σ H Q → t σ H Q) : PT X e t' := ⟨fun pins s σ H Q I q => h.run pins s σ H Q I (w σ H Q q)⟩
theorem _root_.L2.PW.weak {X : Cx} {e : Expr} {t t' : TT} (h : PW X e t) (w : ∀ σ H Q, t' σ H Q → t σ H Q) : PW X e t' := ⟨fun wh pins s σ H Q I q => h.run wh pins s σ H Q I (w σ H Q q)⟩
theorem _root_.L2.PS.weak {X : Cx} {e : Stmt} {t t' : TS} (h : PS X e t) (w : ∀ D' σ H, t' D' σ H → t D' σ H) : PS X e t' := ⟨fun pins s σ H D' I q => h.run pins s σ H D' I (w D' σ H q)⟩
theorem _root_.L2.PSs.weak {X : Cx} {e : List Stmt} {t t' : TS} (h : PSs X e t) (w : ∀ D' σ H, t' D' σ H → t D' σ H) : PSs X e t' := ⟨fun pins s σ H D' I q => h.run pins s σ H D' I (w D' σ H q)⟩
theorem _root_.L2.PG.weak {X : Cx} {e : Expr} {t t' : TG} (h : PG X e t) (w : ∀ v σ H Q, t' v σ H Q → t v σ H Q) : PG X e t' := ⟨fun pins s σ H v u Q I r q => h.run pins s σ H v u Q I r (w v σ H Q q)⟩

section
variable {K : PySem.W.Frag} {c : Ct} {S S' H H' : Hp} {σ : L2.St} {env : En}
theorem RelH.mono {h : Hd} {v : V} (r : RelH K S σ h v) (e : Same S S') : RelH K S' σ h v := by
  cases h with
  | val d => exact RelD.mono e r
  | slot i => exact r
theorem view {h : Hd} {v : V} {d : D} (E : Er K c S H σ env) (r : RelH K S σ h v) (e : deref env h = some d) : Vw K S H d v := by
  cases h with
  | val d' => cases e; exact .inl r
  | slot i =>
    have r' : σ[i]? = some (some v) := r
    have e' : (match env[i]? with
      | some (.sh d) => some d
      | some (.ow _ d) => some d
      | _ => none) = some d := e
    split at e'
    · rename_i d' q
      cases e'
      obtain ⟨v', a, b⟩ := E.sh i d q
      rw [r'] at a; cases a
      exact .inl b
    · rename_i f d' q
      cases e'
      obtain ⟨p, a, b, _⟩ := E.ow i f d q
      rw [r'] at a; cases a
      exact .inr ⟨p, rfl, b⟩
    · cases e'
theorem Vw.rel {d : D} {v : V} (h : Vw K S H d v) (hs : Same S H) : RelD K H d v := by
  rcases h with h | ⟨p, rfl, h⟩
  · exact h.mono hs
  · exact h.rel hs
theorem Vw.lst {ds : List D} {v : V} (h : Vw K S H (.lst ds) v) (hs : Same S H) : ∃ a vs, v = .ref a ∧ H a = some (.lst vs) ∧ RelDs K S ds vs := by
  rcases h with h | ⟨p, rfl, h⟩
  · cases h with
    | lst h r => exact ⟨_, _, rfl, hs _ _ h, r⟩
  · obtain ⟨vs, e, r⟩ := h
    exact ⟨p, vs, rfl, e, r⟩
theorem Vw.tup {ds : List D} {v : V} (h : Vw K S H (.tup ds) v) (hs : Same S H) : ∃ a vs, v = .ref a ∧ TpAt K H a vs ∧ RelDs K S ds vs := by
  rcases h with h | ⟨p, rfl, h⟩
  · cases h with
    | tup h r => exact ⟨_, _, rfl, h.same hs, r⟩
  · exact h.elim
theorem Vw.dic {ds : List (Key × D)} {v : V} (h : Vw K S H (.dic ds) v) (hs : Same S H) : ∃ a vs, v = .ref a ∧ H a = some (.dK vs) ∧ RelKs K S ds vs := by
  rcases h with h | ⟨p, rfl, h⟩
  · cases h with
    | dic h r => exact ⟨_, _, rfl, hs _ _ h, r⟩
  · obtain ⟨vs, e, r⟩ := h
    exact ⟨p, vs, rfl, e, r⟩
end

/-! ### names, constants -/
def mC (d : D) : M D := fun e => some (d, e)
/-- a slot's value; an own object is let go -/
def mVar (i : Nat) : M D := fun e => match e[i]? with
  | some (.sh d) => some (d, e)
  | some (.ow true d) => some (d, e.set i (.sh d))
  | _ => none
def mHs (i : Nat) : M Hd := fun e => match e[i]? with
  | some (.sh _) => some (.slot i, e)
  | some (.ow _ _) => some (.slot i, e)
  | _ => none
def mV (f : M D) : M Hd := fun e => match f e with
  | some (d, e1) => some (.val d, e1)
  | none => none
section
variable {X : Cx} {c : Ct}
theorem f_const {e : Expr} {v : V} {d : D} (h : PE X e (tC v)) (r : ∀ S, RelD X.K S d v) : FE X c e (mC d) := h.weak fun σ H Q ⟨S, env, d', env', E, e1, k⟩ => by
  cases e1
  exact k S H v E (Same.refl _) (r S)
theorem f_int {i j pos} : FE X c (.Constant (.int i) j pos) (mC (.int i)) := f_const pe_int fun _ => .int i
theorem f_bl {i j pos} : FE X c (.Constant (.bool i) j pos) (mC (.bl i)) := f_const pe_bl fun _ => .bl i
theorem f_non {j pos} : FE X c (.Constant .none j pos) (mC .non) := f_const pe_non fun _ => .non
theorem f_str {x j pos} : FE X c (.Constant (.str x) j pos) (mC (.str x)) := f_const pe_str fun _ => .str x
theorem f_var (i : Nat) {x : Str} {pos : Pos} (h : PE X (.Name x pos) (tVar i)) : FE X c (.Name x pos) (mVar i) := h.weak fun σ H Q ⟨S, env, d, env', E, e1, k⟩ => by
  unfold mVar at e1
  split at e1
  · rename_i d' q
    cases e1
    obtain ⟨v, a, r⟩ := E.sh i d q
    exact ⟨v, a, k S H v E (Same.refl _) r⟩
  · rename_i d' q
    cases e1
    obtain ⟨S', p, E', a, b, r⟩ := E.freeze q
    exact ⟨_, b, k S' H _ E' a r⟩
  · cases e1
theorem f_hvar (i : Nat) {x : Str} {pos : Pos} (h : PE X (.Name x pos) (tVar i)) : FH X c (.Name x pos) (mHs i) := h.weak fun σ H Q ⟨S, env, d, env', E, e1, k⟩ => by
  unfold mHs at e1
  split at e1
  · rename_i d' q
    cases e1
    obtain ⟨v, a, r⟩ := E.sh i d' q
    exact ⟨v, a, k S H v E (Same.refl _) a⟩
  · rename_i f d' q
    cases e1
    obtain ⟨p, a, _⟩ := E.ow i f d' q
    exact ⟨_, a, k S H _ E (Same.refl _) a⟩
  · cases e1
theorem f_val {e : Expr} {f : M D} (h : FE X c e f) : FH X c e (mV f) := h.weak fun σ H Q ⟨S, env, d, env', E, e1, k⟩ => by
  unfold mV at e1
  split at e1
  · rename_i d' e' q
    cases e1
    exact ⟨S, env, d', env', E, q, fun S' H' v E' a r => k S' H' v E' a r⟩
  · cases e1
end

/-! ### operators -/
/-- two values, then g -/
def m2 (g : D → D → Option D) (fa fb : M D) : M D := fun e => match fa e with
  | none => none
  | some (a, e1) => match fb e1 with
    | none => none
    | some (b, e2) => match g a b with
      | none => none
      | some z => some (z, e2)
def m2H (g : D → D → Option D) (fa fb : M Hd) : M D := fun e => match fa e with
  | none => none
  | some (a, e1) => match fb e1 with
    | none => none
    | some (b, e2) => match deref e2 a, deref e2 b with
      | some a', some b' => (match g a' b' with
        | none => none
        | some z => some (z, e2))
      | _, _ => none
def m1 (g : D → Option D) (fa : M D) : M D := fun e => match fa e with
  | none => none
  | some (a, e1) => match g a with
    | none => none
    | some z => some (z, e1)
def m1H (g : D → Option D) (fa : M Hd) : M D := fun e => match fa e with
  | none => none
  | some (a, e1) => match deref e1 a with
    | none => none
    | some a' => match g a' with
      | none => none
      | some z => some (z, e1)
/-- what an operation must do for g: two ways out, a value that needs no room, a new object -/
def Op2 (K : PySem.W.Frag) (r : R2) (g : D → D → Option D) : Prop := ∀ (S H : Hp) (d e z : D) (x y : V) (Q : VK), g d e = some z → Vw K S H d x → Vw K S H e y → Same S H →
  (∀ v, RelD K S z v → Q v H) → (∀ p o, H p = none → RelD K (upd S p o) z (.ref p) → Q (.ref p) (upd H p o)) → r x y H Q
def Op1 (K : PySem.W.Frag) (r : V → Hp → VK → Prop) (g : D → Option D) : Prop := ∀ (S H : Hp) (d z : D) (x : V) (Q : VK), g d = some z → Vw K S H d x → Same S H →
  (∀ v, RelD K S z v → Q v H) → (∀ p o, H p = none → RelD K (upd S p o) z (.ref p) → Q (.ref p) (upd H p o)) → r x H Q
section
variable {X : Cx} {c : Ct} {a b : Expr} {pos : Pos}
/-- the reading of two operands and an operation -/
theorem t2 {r : R2} {g : D → D → Option D} {fa fb : M D} (ho : Op2 X.K r g) (σ : L2.St) (H : Hp) (Q : VK) (h : tM X.K c (m2 g fa fb) σ H Q) : tOp r (tM X.K c fa) (tM X.K c fb) σ H Q := by
  obtain ⟨S, env, d, env', E, e1, k⟩ := h
  unfold m2 at e1
  split at e1
  · cases e1
  · rename_i da ea qa
    split at e1
    · cases e1
    · rename_i db eb qb
      split at e1
      · cases e1
      · rename_i z qz
        cases e1
        refine ⟨S, env, da, ea, E, qa, fun S1 H1 v1 E1 s1 r1 => ⟨S1, ea, db, _, E1, qb, fun S2 H2 v2 E2 s2 r2 => ?_⟩⟩
        exact ho S2 H2 da db _ v1 v2 Q qz (.inl (r1.mono s2)) (.inl r2) E2.sub (fun v r => k S2 H2 v E2 (s1.trans s2) r) fun p o hp r => k _ _ _ (E2.laid o hp) ((s1.trans s2).trans (same_upd (E2.sub.free hp))) r
theorem t2H {r : R2} {g : D → D → Option D} {fa fb : M Hd} (ho : Op2 X.K r g) (σ : L2.St) (H : Hp) (Q : VK) (h : tM X.K c (m2H g fa fb) σ H Q) : tOp r (tH X.K c fa) (tH X.K c fb) σ H Q := by
  obtain ⟨S, env, d, env', E, e1, k⟩ := h
  unfold m2H at e1
  split at e1
  · cases e1
  · rename_i da ea qa
    split at e1
    · cases e1
    · rename_i db eb qb
      split at e1
      · rename_i a' b' q1 q2
        split at e1
        · cases e1
        · rename_i z qz
          cases e1
          refine ⟨S, env, da, ea, E, qa, fun S1 H1 v1 E1 s1 r1 => ⟨S1, ea, db, _, E1, qb, fun S2 H2 v2 E2 s2 r2 => ?_⟩⟩
          exact ho S2 H2 a' b' _ v1 v2 Q qz (view E2 (r1.mono s2) q1) (view E2 r2 q2) E2.sub (fun v r => k S2 H2 v E2 (s1.trans s2) r) fun p o hp r => k _ _ _ (E2.laid o hp) ((s1.trans s2).trans (same_upd (E2.sub.free hp))) r
      · cases e1
theorem t1 {r : V → Hp → VK → Prop} {g : D → Option D} {fa : M D} (ho : Op1 X.K r g) (σ : L2.St) (H : Hp) (Q : VK) (h : tM X.K c (m1 g fa) σ H Q) : tUn r (tM X.K c fa) σ H Q := by
  obtain ⟨S, env, d, env', E, e1, k⟩ := h
  unfold m1 at e1
  split at e1
  · cases e1
  · rename_i da ea qa
    split at e1
    · cases e1
    · rename_i z qz
      cases e1
      refine ⟨S, env, da, _, E, qa, fun S1 H1 v1 E1 s1 r1 => ?_⟩
      exact ho S1 H1 da _ v1 Q qz (.inl r1) E1.sub (fun v r => k S1 H1 v E1 s1 r) fun p o hp r => k _ _ _ (E1.laid o hp) (s1.trans (same_upd (E1.sub.free hp))) r
theorem t1H {r : V → Hp → VK → Prop} {g : D → Option D} {fa : M Hd} (ho : Op1 X.K r g) (σ : L2.St) (H : Hp) (Q : VK) (h : tM X.K c (m1H g fa) σ H Q) : tUn r (tH X.K c fa) σ H Q := by
  obtain ⟨S, env, d, env', E, e1, k⟩ := h
  unfold m1H at e1
  split at e1
  · cases e1
  · rename_i da ea qa
    split at e1
    · cases e1
    · rename_i a' q1
      split at e1
      · cases e1
      · rename_i z qz
        cases e1
        refine ⟨S, env, da, _, E, qa, fun S1 H1 v1 E1 s1 r1 => ?_⟩
        exact ho S1 H1 a' _ v1 Q qz (view E1 r1 q1) E1.sub (fun v r => k S1 H1 v E1 s1 r) fun p o hp r => k _ _ _ (E1.laid o hp) (s1.trans (same_upd (E1.sub.free hp))) r
theorem f_bin {op : Operator} {r : R2} {g : D → D → Option D} {fa fb : M D} (ho : OpR X (binaryOp op) r) (hg : Op2 X.K r g) (ha : FE X c a fa) (hb : FE X c b fb) : FE X c (.BinOp a op b pos) (m2 g fa fb) :=
  (pe_op ho ha hb).weak (t2 hg)
theorem f_binH {op : Operator} {r : R2} {g : D → D → Option D} {fa fb : M Hd} (ho : OpR X (binaryOp op) r) (hg : Op2 X.K r g) (ha : FH X c a fa) (hb : FH X c b fb) : FE X c (.BinOp a op b pos) (m2H g fa fb) :=
  (pe_op ho ha hb).weak (t2H hg)
theorem f_un {op : UnaryOp} {r : V → Hp → VK → Prop} {g : D → Option D} {fa : M D} (ho : UnR X (unaryOp op) r) (hg : Op1 X.K r g) (ha : FE X c a fa) : FE X c (.UnaryOp op a pos) (m1 g fa) :=
  (pe_un ho ha).weak (t1 hg)
theorem f_ix {r : R2} {g : D → D → Option D} {fa fb : M Hd} (hr : IxR X r) (hg : Op2 X.K r g) (ha : FH X c a fa) (hb : FH X c b fb) (hs : PlainIx b) : FE X c (.Subscript a b pos) (m2H g fa fb) :=
  (pe_ix hr ha hb hs).weak (t2H hg)
/-- a comparison as a value -/
theorem f_cmp {op : CmpOp} {r : R2} {g : D → D → Option D} {fa fb : M Hd} (ho : OpR X (compareOp op) r) (hg : Op2 X.K r g) (ha : FH X c a fa) (hb : FH X c b fb) (hm : behindInMarks op b = false) : FE X c (.Compare a [op] [b] pos) (m2H g fa fb) :=
  (pe_cmpR ho ha hb hm).weak (t2H hg)
end
/-! the operations by ints -/
theorem bif_some {α : Type} {b : Bool} {x y : α} (h : (bif b then some x else none) = some y) : b = true ∧ x = y := by
  cases b with
  | true => exact ⟨rfl, Option.some.inj h⟩
  | false => cases h
def gI (C : Int → Int → Bool) (g : Int → Int → Int) : D → D → Option D
  | .int i, .int j => bif C i j then some (.int (g i j)) else none
  | _, _ => none
def gB (g : Int → Int → Bool) : D → D → Option D
  | .int i, .int j => some (.bl (g i j))
  | _, _ => none
section
variable {K : PySem.W.Frag}
theorem vw_int {S H : Hp} {i : Int} {x : V} (h : Vw K S H (.int i) x) : x = .int i := by
  rcases h with h | ⟨p, _, h⟩
  · cases h; rfl
  · exact h.elim
theorem o2_int0 (g : Int → Int → Int) : Op2 K (rI0 fun i j => .int (g i j)) (gI (fun _ _ => true) g) := by
  intro S H d e z x y Q q hd he hs kv ka
  unfold gI at q
  split at q
  · cases q
    exact ⟨_, _, vw_int hd, vw_int he, kv _ (.int _)⟩
  · cases q
theorem o2_int {C : Int → Int → Prop} (Cb : Int → Int → Bool) (hC : ∀ i j, Cb i j = true → C i j) (g : Int → Int → Int) : Op2 K (rI C fun i j => .int (g i j)) (gI Cb g) := by
  intro S H d e z x y Q q hd he hs kv ka
  unfold gI at q
  split at q
  · rename_i i j
    obtain ⟨hc, rfl⟩ := bif_some q
    exact ⟨_, _, vw_int hd, vw_int he, hC _ _ hc, kv _ (.int _)⟩
  · cases q
theorem o2_cmp (g : Int → Int → Bool) : Op2 K (rI0 fun i j => .bl (g i j)) (gB g) := by
  intro S H d e z x y Q q hd he hs kv ka
  unfold gB at q
  split at q
  · cases q
    exact ⟨_, _, vw_int hd, vw_int he, kv _ (.bl _)⟩
  · cases q
end
/-- whether p, never to be computed -/
noncomputable def chk (p : Prop) : Bool := @decide p (Classical.propDecidable p)
theorem chk_yes {p : Prop} (h : p) : chk p = true := @decide_eq_true p (Classical.propDecidable p) h
theorem chk_of {p : Prop} (h : chk p = true) : p := @of_decide_eq_true p (Classical.propDecidable p) h
noncomputable def cMul (i j : Int) : Bool := chk ((Builtin.Int.intBits i : Int) + (Builtin.Int.intBits j : Int) ≤ 134217728)
noncomputable def cPow (i j : Int) : Bool := chk (0 ≤ j ∧ (Builtin.Int.intBits i : Int) * j ≤ 2 ^ 27)
def cMod (_ j : Int) : Bool := decide (0 < j)
def cDiv (_ j : Int) : Bool := decide (0 < j) && decide (j < 1073741824)
section
variable {X : Cx} {c : Ct} {a b : Expr} {pos : Pos} {fa fb : M D}
theorem op_powX : OpR X (binaryOp .Pow) (rI (fun i j => 0 ≤ j ∧ (Builtin.Int.intBits i : Int) * j ≤ 2 ^ 27) fun i j => .int (i ^ j.toNat)) := opI fun _ _ _ _ _ _ _ hc q => pow_int hc.1 hc.2 q
abbrev mAdd := m2 (gI (fun _ _ => true) (· + ·))
abbrev mSub := m2 (gI (fun _ _ => true) (· - ·))
noncomputable abbrev mMul := m2 (gI cMul (· * ·))
abbrev mMod := m2 (gI cMod (· % ·))
abbrev mDiv := m2 (gI cDiv (· / ·))
noncomputable abbrev mPow := m2 (gI cPow fun i j => i ^ j.toNat)
theorem f_add (ha : FE X c a fa) (hb : FE X c b fb) : FE X c (.BinOp a .Add b pos) (mAdd fa fb) := f_bin op_add (o2_int0 _) ha hb
theorem f_sub (ha : FE X c a fa) (hb : FE X c b fb) : FE X c (.BinOp a .Sub b pos) (mSub fa fb) := f_bin op_sub (o2_int0 _) ha hb
theorem f_mul (ha : FE X c a fa) (hb : FE X c b fb) : FE X c (.BinOp a .Mult b pos) (mMul fa fb) := f_bin op_mulX (o2_int cMul (fun _ _ h => chk_of h) _) ha hb
theorem f_mod (ha : FE X c a fa) (hb : FE X c b fb) : FE X c (.BinOp a .Mod b pos) (mMod fa fb) := f_bin op_mod (o2_int cMod (fun _ _ h => of_decide_eq_true h) _) ha hb
theorem f_div (ha : FE X c a fa) (hb : FE X c b fb) : FE X c (.BinOp a .FloorDiv b pos) (mDiv fa fb) :=
  f_bin op_fdiv (o2_int cDiv (fun i j h => by unfold cDiv at h; rw [Bool.and_eq_true] at h; exact ⟨of_decide_eq_true h.1, of_decide_eq_true h.2⟩) _) ha hb
theorem f_pow (ha : FE X c a fa) (hb : FE X c b fb) : FE X c (.BinOp a .Pow b pos) (mPow fa fb) :=
  f_bin op_powX (o2_int cPow (fun i j h => chk_of h) _) ha hb
def gNeg : D → Option D
  | .int i => some (.int (-i))
  | _ => none
theorem o1_neg {K : PySem.W.Frag} : Op1 K (rU fun i => .int (-i)) gNeg := by
  intro S H d z x Q q hd hs kv ka
  unfold gNeg at q
  split at q
  · cases q
    exact ⟨_, vw_int hd, kv _ (.int _)⟩
  · cases q
theorem f_neg (ha : FE X c a fa) : FE X c (.UnaryOp .USub a pos) (m1 gNeg fa) := f_un un_neg o1_neg ha
end
section
variable {X : Cx} {c : Ct} {a b : Expr} {pos : Pos} {fa fb : M Hd}
abbrev mLt := m2H (gB fun i j => decide (i < j))
abbrev mLe := m2H (gB fun i j => decide (i ≤ j))
abbrev mGt := m2H (gB fun i j => decide (j < i))
abbrev mGe := m2H (gB fun i j => decide (j ≤ i))
theorem f_lt (ha : FH X c a fa) (hb : FH X c b fb) : FE X c (.Compare a [.Lt] [b] pos) (mLt fa fb) := f_cmp op_lt (o2_cmp _) ha hb (nobehind _ (by decide) (by decide))
theorem f_le (ha : FH X c a fa) (hb : FH X c b fb) : FE X c (.Compare a [.LtE] [b] pos) (mLe fa fb) := f_cmp op_le (o2_cmp _) ha hb (nobehind _ (by decide) (by decide))
theorem f_gt (ha : FH X c a fa) (hb : FH X c b fb) : FE X c (.Compare a [.Gt] [b] pos) (mGt fa fb) := f_cmp op_gt (o2_cmp _) ha hb (nobehind _ (by decide) (by decide))
theorem f_ge (ha : FH X c a fa) (hb : FH X c b fb) : FE X c (.Compare a [.GtE] [b] pos) (mGe fa fb) := f_cmp op_ge (o2_cmp _) ha hb (nobehind _ (by decide) (by decide))
end
end FL

set_option Elab.async false
set_option linter.all false
set_option maxRecDepth 100000
set_option maxHeartbeats 2000000
namespace FL
open PySem PySem.Spec PyProof.Rows L2

/-! ## Promises of defs where no repr is under way -/
/-- the table of modules stands at its place -/
def SysB (h : Heap) : Prop := ∃ o es n, h.get? sysModules = some o ∧ o.data = .dict es n
/-- nothing is being shown -/
structure Gd (A : Around) (base : Heap) : Prop where
  gu : A.guards = some []
  sys : SysB base
/-- as FnOk, but asked only where nothing is being shown -/
structure FnG (P : Program) (w : World) (K : PySem.W.Frag) (mg : Str → Option Value) (base : Heap) (CX : CXT) (k : Nat) (f : Addr) (fd : FuncData) (ps : List Str) (sp : Sp) : Prop where
  len : ∀ vs H Q E, sp vs H Q E → vs.length = ps.length
  run : ∀ (A : Around) (outer : List Env) (s : Shared) (H : Hp) (args : Args) (us : List Value) (vs : List V) (Q : VK) (E : XK), Gd A base → Room k A → Env0 P w K mg base A outer s H →
    BindsTo s fd args (ps.zip us) → Vals vs us → sp vs H Q E → codeAny (model P w) A (.call (.ref f) args) (CR CX outer P w H s Q E) s

theorem FnG.mono {P : Program} {w : World} {K : PySem.W.Frag} {mg : Str → Option Value} {base : Heap} {CX : CXT} {j k : Nat} {f : Addr} {fd : FuncData} {ps : List Str} {sp : Sp} (G : FnG P w K mg base CX j f fd ps sp) (h : j ≤ k) : FnG P w K mg base CX k f fd ps sp :=
  ⟨G.len, fun A outer s H args us vs Q E g r => G.run A outer s H args us vs Q E g (r.mono h)⟩

section
variable {X : Cx} {CX : CXT} {k : Nat} {f C : Addr} {fd : FuncData} {ps ks : List Str} {sp : Sp} {dvs : List V} {ds : List Value} {E : XK} {x m : Str} {p pos apos : Pos} {e o : Expr} {es : List Expr} {ta : TE} {t tk : TA}
/-- a callee's end, in the caller -/
theorem cr_in {pins : List (Addr × Obj)} {σ : L2.St} {H : Hp} {s s' : Shared} {Q : VK} {r : Result} (pass : Passes CX X E) (I : Inv X pins σ H s) (q : CR CX X.stack X.prog X.w H s Q E r s') :
    match r with
    | .ok (.ret u) => EP X pins σ Q u s'
    | .ok _ => False
    | .error z => X.xe z s' := by
  cases r with
  | error z => exact pass pins σ H s z s' I q
  | ok fl => cases fl <;> first | exact I.after q | exact q
theorem runG {pins : List (Addr × Obj)} {σ : L2.St} {H : Hp} {s : Shared} {Q : VK} {us : List Value} {vs : List V} (G : FnG X.prog X.w X.K X.mg X.base CX k f fd ps sp) (gu : Gd X.A X.base) (room : Room k X.A)
    (hb : Binds X.K fd ps ds) (hd : Vals dvs ds) (pass : Passes CX X E) (I : Inv X pins σ H s) (r : Vals vs us) (want : sp (vs ++ dvs) H Q E) :
    wpAny (model X.prog X.w) X.A (call (.ref f) us) (EP X pins σ Q) X.xe s := by
  have both : Vals (vs ++ dvs) (us ++ ds) := r.append hd
  have long : (us ++ ds).length = ps.length := both.length.symm.trans (G.len _ _ _ _ want)
  apply wpAny_call
  apply codeAny_mono (G.run X.A X.stack s H ⟨us, []⟩ _ _ Q E gu room I.env0 (hb s us I.kIn long) both want)
  intro r' s' q
  have z := cr_in pass I q
  cases r' with
  | error _ => exact z
  | ok fl => cases fl <;> first | exact z | exact False.elim z
/-- f(e, ..) -/
theorem callG (G : FnG X.prog X.w X.K X.mg X.base CX k f fd ps sp) (gu : Gd X.A X.base) (room : Room k X.A) (gl : Gl X x) (hm : X.mg x = some (.ref f)) (kp : PySem.W.keepIn X.K (.ref f) = true) (hb : Binds X.K fd ps ds) (hd : Vals dvs ds)
    (pass : Passes CX X E) (ha : PA X (e :: es) t) (n1 : (x == ("__debug__" : Str)) = false := by decide) (n2 : starEach (e :: es) X.env = (false, eval e X.env) :: starEach es X.env := by rfl) (n3 : (backTo pos (starEach es X.env)).any (·.1) = false := by rfl) :
    PE X (.Call (.Name x p) (e :: es) [] pos) (tCall sp dvs E t) := by
  constructor
  intro pins s σ H Q I want
  apply wpAny_Call_Name_kw
  apply ld_glob I gl hm _ n1
  apply PySem.W.callWith_K (h₀ := X.base) I.mod.kin kp _ n2 n3
  apply thn (ha.run pos pins s σ H _ I want)
  rintro us s1 ⟨vs, H1, J, rv, q⟩
  exact ⟨J.kIn, runG G gu room hb hd pass J rv q⟩
/-- f() -/
theorem callG0 (G : FnG X.prog X.w X.K X.mg X.base CX k f fd ps sp) (gu : Gd X.A X.base) (room : Room k X.A) (gl : Gl X x) (hm : X.mg x = some (.ref f)) (kp : PySem.W.keepIn X.K (.ref f) = true) (hb : Binds X.K fd ps ds) (hd : Vals dvs ds)
    (pass : Passes CX X E) (n1 : (x == ("__debug__" : Str)) = false := by decide) : PE X (.Call (.Name x p) [] [] pos) (tCall sp dvs E tNil) := by
  constructor
  intro pins s σ H Q I want
  apply wpAny_Call_Name_kw
  apply ld_glob I gl hm _ n1
  exact PySem.W.callWith_K0 I.kIn kp (runG (us := []) G gu room hb hd pass I .nil want)
/-- f(e, .., k = v, ..): gV puts the values in the parameters' order -/
theorem callGK {g : List Value → List Value → List Value} {gV : List V → List V → List V} {kws : List Keyword} (G : FnG X.prog X.w X.K X.mg X.base CX k f fd ps sp) (gu : Gd X.A X.base) (room : Room k X.A) (gl : Gl X x) (hm : X.mg x = some (.ref f))
    (kp : PySem.W.keepIn X.K (.ref f) = true) (kb : KBinds X.K fd ps ks g gV) (pass : Passes CX X E) (ha : PA X (e :: es) t) (hk : PK X kws tk) (n0 : (backToKw pos (keywordEach kws X.env)).all (·.1.isSome) = true := by rfl)
    (nk : (backToKw pos (keywordEach kws X.env)).filterMap (·.1) = ks := by rfl) (n1 : (x == ("__debug__" : Str)) = false := by decide) (n2 : starEach (e :: es) X.env = (false, eval e X.env) :: starEach es X.env := by rfl)
    (n3 : ((backTo pos (starEach (e :: es) X.env)).any (·.1) || (backToKw pos (keywordEach kws X.env)).any (·.1.isNone)) = false := by rfl) :
    PE X (.Call (.Name x p) (e :: es) kws pos) (tCallK sp gV E t tk) := by
  constructor
  intro pins s σ H Q I want
  apply wpAny_Call_Name_kw
  apply ld_glob I gl hm _ n1
  apply PySem.W.callWith_KW (h₀ := X.base) I.mod.kin kp n0 _ n3 n2
  apply thn (ha.run pos pins s σ H _ I want)
  rintro us s1 ⟨vs, H1, J, rv, q⟩
  apply thn (hk.run pos pins s1 σ H1 _ J q)
  rintro ws s2 ⟨zs, H2, J2, rz, q2⟩
  refine ⟨J2.kIn, ?_⟩
  rw [nk]
  have both : Vals (gV vs zs) (g us ws) := kb.rel rv rz
  have long : (g us ws).length = ps.length := both.length.symm.trans (G.len _ _ _ _ q2)
  apply wpAny_call
  apply codeAny_mono (G.run X.A X.stack s2 H2 ⟨us, ks.zip ws⟩ _ _ Q E gu room J2.env0 (kb.to s2 us ws J2.kIn long) both q2)
  intro r' s' q'
  have z := cr_in pass J2 q'
  cases r' with
  | error _ => exact z
  | ok fl => cases fl <;> first | exact z | exact False.elim z
/-- o.m(e, ..) -/
theorem methG {pl : Sem Bool} (he : PE X o ta) (c : Cls X.K C) (hm : Meth X.K C m f) (G : FnG X.prog X.w X.K X.mg X.base CX k f fd ps sp) (gu : Gd X.A X.base) (room : Room k X.A) (hb : Binds X.K fd ps ds) (hd : Vals dvs ds) (pass : Passes CX X E) (ha : PA X (e :: es) t)
    (n2 : starEach (e :: es) X.env = (false, eval e X.env) :: starEach es X.env := by rfl) (n3 : (backTo pos (starEach es X.env)).any (·.1) = false := by rfl)
    (n4 : eval (.Call (.Attribute o m apos) (e :: es) [] pos) X.env = (eval o X.env >>= fun ov => standAt apos.atName >>= fun _ => holding [ov] (getMethod ov m pl) >>= fun fm => callWith pos fm.1 fm.2 (backTo pos (starEach (e :: es) X.env)) (backToKw pos (keywordEach [] X.env))) := by rfl) :
    PE X (.Call (.Attribute o m apos) (e :: es) [] pos) (tMeth C m sp dvs E ta t) := by
  constructor
  intro pins s σ H Q I want
  apply PySem.W.methodCall_KW (pl := pl) _ n4
  apply thn (he.run pins s σ H _ I want)
  rintro u s1 ⟨y, H1, J, ry, a, dx, fs, rfl, ea, l, q⟩
  cases ry
  apply getmeth_ok J ea c hm l
  apply PySem.W.callWith_K (first := [.ref a]) (h₀ := X.base) I.mod.kin hm.kp _ n2 n3
  apply thn (ha.run pos pins s1 σ H1 _ J q)
  rintro us s2 ⟨vs, H2, J2, rv, q2⟩
  exact ⟨J2.kIn, runG (us := .ref a :: us) (vs := .ref a :: vs) G gu room hb hd pass J2 (.cons rfl rv) q2⟩
end

/-! ## A def of the text -/
/-- a def by its body, where nothing is being shown -/
theorem fnG {CX : CXT} {P : Program} {w : World} {K : PySem.W.Frag} {mg : Str → Option Value} {base : Heap} {k : Nat} {f : Addr} {name qual : Str} {params : Arguments} {body : List Stmt} {scope : Scope} {dvs : List V} {kws : List (Str × V)} {fd : FuncData}
    {N ps : List Str} {sp : Sp} (F : FunD K name qual params body scope dvs kws f fd) (S : FnScope N ps scope) (long : ∀ vs H Q E, sp vs H Q E → vs.length = ps.length)
    (walk : ∀ (cdv : Value) (A : Around) (outer : List Env) (s : Shared) (H : Hp) (vs : List V) (Q : VK) (E : XK), Gd (A.deeper (envOfC qual scope s.heap.objs.size f cdv)) base → Room k (A.deeper (envOfC qual scope s.heap.objs.size f cdv)) → sp vs H Q E →
      ∃ t, PSs (cxOf CX P w K mg base N qual scope f cdv A outer s H E) body t ∧ t { nx := fun _ H' => Q .non H', rt := Q } (start N vs) H) :
    FnG P w K mg base CX (k + 1) f fd ps sp := by
  obtain ⟨⟨oc, od, dV, kV, doc, pm, an, cdv, ct, osl, rfl, at_f, code, _, _⟩, _⟩ := F
  refine ⟨long, ?_⟩
  intro A outer s H args us vs Q E gu room e0 hb r want
  have n := long _ _ _ _ want
  have inK : K.In s.heap := e0.mod.kin.keeps fun b ob q => (e0.bs b ob q).1
  have kinds : ∀ y ∈ ps.zip us, scope.names.lookup y.1 = some .local ∨ (scope.names.lookup y.1 = some .cell ∧ ((cellsFrom (s.heap.objs.size + 1) scope.names []).lookup y.1).isSome = true) := by
    rintro ⟨nm, v⟩ hy
    cases S.par nm (List.of_mem_zip hy).1 with
    | inl q => exact .inl q
    | inr q => exact .inr ⟨q, PySem.W.cellsFrom_some _ _ _ (.inl q)⟩
  apply codeAny_call_function room.depth (inK _ _ at_f) rfl S.co S.gen rfl (PySem.W.codeRec_of inK code)
  apply hb
  apply wpAny_newFunctionEnv_cells S.kind kinds
  rintro env rfl s1 st
  have lim : s.heap.NoLimit := e0.mod.nolimit.keeps fun b ob q => (e0.bs b ob q).1
  refine ⟨lim.keeps st.toInCall.keep, codeAny_func ?_⟩
  obtain ⟨t, body_t, at_t⟩ := walk cdv A outer s H vs Q E ⟨gu.gu, gu.sys⟩ (room.deeper _) want
  have I := inv_start (CX := CX) (P := P) (w := w) (mg := mg) (base := base) (N := N) (E := E) S room.hd e0 n r st
  apply wpAny_mono (body_t.run [] s1 (start N vs) H _ I at_t) _ fun _ _ z => z
  intro fl s' hs
  cases fl with
  | ret u =>
    obtain ⟨v, _, H', J, rv, q⟩ := hs
    exact ⟨v, H', J.os, J.bare, J.base, J.hok, rv, q⟩
  | next =>
    obtain ⟨_, H', J, q⟩ := hs
    exact ⟨V.non, H', J.os, J.bare, J.base, J.hok, rfl, q⟩
  | brk => exact hs.elim fun _ z => z.elim fun _ z => z.2.elim
  | cont => exact hs.elim fun _ z => z.elim fun _ z => z.2.elim

/-! ## The law, called at the top -/
def scriptObj (vs : List Value) : Obj := { cls := .type "list", data := .seq vs.toArray }
/-- the heap in which the script alone is tracked -/
def scriptHp (a : Addr) (vs : List Value) (ns : List Int) : Hp := fun b => if b = a then some (.frz (scriptObj vs) (.lst (ns.map V.int))) else none
theorem lawG {P : Program} {w : World} {K : PySem.W.Frag} {mg mb : Str → Option Value} {k : Nat} {fa a : Addr} {fd : FuncData} {x : Str} {sp : Sp} {s : Shared} {vs : List Value} {ns : List Int}
    (inK : K.In s.heap) (nsM : s.heap.Ns mainGlobals mg) (nsB : s.heap.Ns builtinsNs mb) (bt : ∀ x : Str, x ≠ "__name__" → mb x = bootBuiltins x) (lim : s.heap.NoLimit) (gens : s.gens = #[])
    (at_a : s.heap.get? a = some (scriptObj vs)) (isI : IntsAre vs ns) (short : ns.length ≤ sizeLine) (sys : SysB s.heap) (room : Room k callerA)
    (F : ∀ base : Heap, K.In base → base.Ns mainGlobals mg → FnG P w K mg base CX0 k fa fd [x] sp) (binds : ∀ (s : Shared) (u : Value), BindsTo s fd ⟨[u], []⟩ [(x, u)])
    (want : ∀ H : Hp, SqL K H a (ns.map V.int) → sp [.ref a] H (fun v _ => v = .bl true) E0) :
    codeAny (model P w) callerA (.call (.ref fa) ⟨[.ref a], []⟩) (fun r s' => r = .ok (.ret (.bool true)) ∧ OldK s.heap s'.heap ∧ s'.os = s.os ∧ AllBare s'.gens) s := by
  have rv := vals_ints isI
  have key : ∀ H : Hp, (H = (fun _ => none) ∨ (H = scriptHp a vs ns ∧ K.lookup a = none)) → SqL K H a (ns.map V.int) →
      codeAny (model P w) callerA (.call (.ref fa) ⟨[.ref a], []⟩) (fun r s' => r = .ok (.ret (.bool true)) ∧ OldK s.heap s'.heap ∧ s'.os = s.os ∧ AllBare s'.gens) s := by
    intro H hH hS
    have only : ∀ b u, H b = some u → b = a ∧ u = .frz (scriptObj vs) (.lst (ns.map V.int)) ∧ K.lookup a = none := by
      intro b u q
      rcases hH with rfl | ⟨rfl, hk⟩
      · exact nomatch (show (none : Option HO) = some u from q)
      · unfold scriptHp at q
        by_cases hb : b = a
        · rw [if_pos hb] at q; exact ⟨hb, (Option.some.inj q).symm, hk⟩
        · rw [if_neg hb] at q; cases q
    have held : HOk P w H s.heap := by
      intro b u q
      obtain ⟨rfl, rfl, _⟩ := only b u q
      exact ⟨at_a, by rw [List.length_map]; exact short, vs, _, rv, at_a⟩
    have stays : ∀ b ob, s.heap.get? b = some ob → (b = a → H b = none) → (hidT s.heap H).get? b = some ob := by
      intro b ob e hn
      apply hidT_get e
      cases q : H b with
      | none => rfl
      | some u => rw [hn (only b u q).1] at q; exact q.symm
    have dicts : ∀ {b : Addr} {m' : Str → Option Value}, s.heap.Ns b m' → (hidT s.heap H).Ns b m' := by
      rintro b m' ⟨ob, es, ep, e, d, rest⟩
      refine ⟨ob, es, ep, stays b ob e fun hb => ?_, d, rest⟩
      subst hb
      rw [at_a] at e
      cases e
      exact absurd d (by unfold scriptObj; exact fun z => nomatch z)
    have inB : K.In (hidT s.heap H) := by
      intro b ob e
      apply stays b ob (inK b ob e)
      intro hb
      cases q : H b with
      | none => rfl
      | some u =>
        have z := (only b u q).2.2
        rw [hb, z] at e
        cases e
    have md : Mod K mg (hidT s.heap H) := by
      refine ⟨inB, dicts nsM, ⟨mb, dicts nsB, bt⟩, ?_⟩
      obtain ⟨mc, h1, h2⟩ := lim
      exact ⟨mc, dicts h1, h2⟩
    have e0 : Env0 P w K mg (hidT s.heap H) callerA [] s H := by
      refine ⟨rfl, md, fun b ob q => of_hidT q, Nat.le_of_eq (hidT_size _ _), trivial, ?_, held, .of_eq gens⟩
      intro b hb
      exact absurd hb (show b ∉ ([] : List Addr) by simp)
    have sysB : SysB (hidT s.heap H) := by
      obtain ⟨ob, es, ep, e, d⟩ := sys
      refine ⟨ob, es, ep, stays _ ob e fun hb => ?_, d⟩
      rw [hb, at_a] at e
      cases e
      exact absurd d (by unfold scriptObj; exact fun z => nomatch z)
    have G := F _ inB (dicts nsM)
    apply codeAny_mono (G.run callerA [] s H ⟨[.ref a], []⟩ [.ref a] [.ref a] _ _ ⟨rfl, sysB⟩ room e0 (binds s (.ref a)) (.cons rfl .nil) (want H hS))
    intro r s' hr
    cases r with
    | error e => exact hr.elim
    | ok fl =>
      cases fl with
      | next => exact hr.elim
      | brk => exact hr.elim
      | cont => exact hr.elim
      | ret u =>
        obtain ⟨v, H', hos, hbare, un, held', rel, rfl⟩ := hr
        cases rel
        refine ⟨rfl, ?_, hos, hbare⟩
        apply OldK.of_keep
        intro b ob e
        cases q : H b with
        | none => exact un.keep b ob e q (fun z => absurd z (show b ∉ ([] : List Addr) by simp)) (by simp)
        | some u =>
          obtain ⟨rfl, rfl, _⟩ := only b u q
          have later := held' b _ (un.frzs b _ _ q)
          rw [at_a] at e
          cases e
          exact later.1
  cases hk : K.lookup a with
  | none => exact key _ (.inr ⟨rfl, hk⟩) (.inl (.inr ⟨scriptObj vs, if_pos rfl⟩))
  | some ob =>
    have e := inK a ob hk
    rw [at_a] at e
    cases e
    exact key _ (.inl rfl) (.inr ⟨_, vs.toArray, _, hk, rfl, rfl, rfl, by rw [List.size_toArray, isI.length]; exact short, by simpa using rv⟩)
/-- the end of a law's proof, over a head by facts; the script's ints have at most 2^20 bits -/
theorem walkG {l : PySem.W.OpenLaw} {n k : Nat} {q : Program} {loose : List Str} {XP : (Str → Option Value) → Heap → Prop} {YP : World → Heap → Prop} {d : DefRec} {x : Str} (hn : l.most = some n) (hn2 : n ≤ sizeLine) (hdf : d.params.defaults = []) (room : Room k callerA)
    (hsys : ∀ w h, YP w h → SysB h)
    (F : ∀ (w : World) (mg : Str → Option Value) (fa : Addr) (h : Heap), YP w h → h.Ns mainGlobals mg → mg d.name = some (.ref fa) → ∃ (K : PySem.W.Frag) (fd : FuncData) (sp : Sp), K.In h ∧ (∀ (s : Shared) (u : Value), BindsTo s fd ⟨[u], []⟩ [(x, u)]) ∧
      (∀ (H : Hp) (a : Addr) (ns : List Int), ns.length ≤ n → (∀ z ∈ ns, Builtin.Int.intBits z ≤ 1048576) → SqL K H a (ns.map V.int) → sp [.ref a] H (fun v _ => v = .bl true) E0) ∧
      ∀ base : Heap, K.In base → base.Ns mainGlobals mg → FnG l.prog w K mg base CX0 k fa fd [x] sp) :
    PySem.W.WalkO q loose XP YP l.row.toRowW d [] (fun f vs => PySem.call f vs) := by
  apply Att.attach_callB hn hdf
  intro w s₀ s₁ mg mb fa o pm cd doc a vs ns G Y ho hd hcd hmg hobj hints hlen hbits hg
  obtain ⟨K, fd, sp, inK, hb, hsp, hF⟩ := F w mg fa _ Y G.T.g hmg
  exact lawG inK G.T.g G.T.b G.T.builtins G.T.nolimit hg hobj hints (Nat.le_trans hlen hn2) (hsys _ _ Y) room hF hb fun H hS => hsp H a ns hlen hbits hS
end FL

set_option Elab.async false
set_option linter.all false
set_option maxRecDepth 100000
set_option maxHeartbeats 2000000
namespace FL
open PySem PySem.Spec PyProof.Rows L2

/-! ## argument lists, displays -/
def mNil : M (List D) := fun e => some ([], e)
def mCons (fa : M D) (fr : M (List D)) : M (List D) := fun e => match fa e with
  | none => none
  | some (a, e1) => match fr e1 with
    | none => none
    | some (as, e2) => some (a :: as, e2)
/-- a list of values, made into one -/
def mMk (g : List D → Option D) (f : M (List D)) : M D := fun e => match f e with
  | none => none
  | some (as, e1) => match g as with
    | none => none
    | some z => some (z, e1)
def szOk (as : List D) : Bool := decide (as.length ≤ sizeLine)
def gTupD (as : List D) : Option D := if szOk as = true then some (.tup as) else none
def gLstD (as : List D) : Option D := if szOk as = true then some (.lst as) else none
/-- what a call of values must do for g -/
def OpN (K : PySem.W.Frag) (r : List V → Hp → VK → Prop) (g : List D → Option D) : Prop := ∀ (S H : Hp) (ds : List D) (z : D) (xs : List V) (Q : VK), g ds = some z → RelDs K S ds xs → Same S H →
  (∀ v, RelD K S z v → Q v H) → (∀ p o, H p = none → RelD K (upd S p o) z (.ref p) → Q (.ref p) (upd H p o)) → r xs H Q
section
variable {X : Cx} {c : Ct} {e a b : Expr} {es : List Expr} {pos : Pos}
theorem fa_nil : FA X c [] mNil := pa_nil.weak fun σ H Q ⟨S, env, d, env', E, e1, k⟩ => by
  cases e1
  exact k S H [] E (Same.refl _) .nil
theorem fa_cons {fe : M D} {fr : M (List D)} (he : FE X c e fe) (hr : FA X c es fr) (hs : starEach (e :: es) X.env = (false, eval e X.env) :: starEach es X.env := by rfl) : FA X c (e :: es) (mCons fe fr) :=
  (pa_cons he hr hs).weak fun σ H Q ⟨S, env, d, env', E, e1, k⟩ => by
    unfold mCons at e1
    split at e1
    · cases e1
    · rename_i da ea qa
      split at e1
      · cases e1
      · rename_i db eb qb
        cases e1
        exact ⟨S, env, da, ea, E, qa, fun S1 H1 v1 E1 s1 r1 => ⟨S1, ea, db, _, E1, qb, fun S2 H2 v2 E2 s2 r2 => k S2 H2 _ E2 (s1.trans s2) (.cons (r1.mono s2) r2)⟩⟩
theorem tN {r : List V → Hp → VK → Prop} {g : List D → Option D} {f : M (List D)} (ho : OpN X.K r g) (σ : L2.St) (H : Hp) (Q : VK) (h : tM X.K c (mMk g f) σ H Q) : tMs X.K c f σ H fun vs H1 => r vs H1 Q := by
  obtain ⟨S, env, d, env', E, e1, k⟩ := h
  unfold mMk at e1
  split at e1
  · cases e1
  · rename_i da ea qa
    split at e1
    · cases e1
    · rename_i z qz
      cases e1
      refine ⟨S, env, da, _, E, qa, fun S1 H1 vs E1 s1 r1 => ?_⟩
      exact ho S1 H1 da _ vs Q qz r1 E1.sub (fun v r => k S1 H1 v E1 s1 r) fun p o hp r => k _ _ _ (E1.laid o hp) (s1.trans (same_upd (E1.sub.free hp))) r
theorem on_tup {K : PySem.W.Frag} : OpN K (fun xs H1 Q => xs.length ≤ sizeLine ∧ ∀ p, H1 p = none → Q (.ref p) (upd H1 p (.tup xs))) gTupD := by
  intro S H ds z xs Q q r hs kv ka
  unfold gTupD at q
  split at q
  · rename_i h
    cases q
    refine ⟨by rw [← r.length]; exact of_decide_eq_true h, fun p hp => ka p _ hp ?_⟩
    exact .tup (.inl upd_same) (r.mono (same_upd (hs.free hp)))
  · cases q
theorem on_lst {K : PySem.W.Frag} : OpN K (fun xs H1 Q => xs.length ≤ sizeLine ∧ ∀ p, H1 p = none → Q (.ref p) (upd H1 p (.lst xs))) gLstD := by
  intro S H ds z xs Q q r hs kv ka
  unfold gLstD at q
  split at q
  · rename_i h
    cases q
    refine ⟨by rw [← r.length]; exact of_decide_eq_true h, fun p hp => ka p _ hp ?_⟩
    exact .lst upd_same (r.mono (same_upd (hs.free hp)))
  · cases q
abbrev mTup := mMk gTupD
abbrev mLst := mMk gLstD
theorem f_tup {x1} {f : M (List D)} (h : FA X c es f) : FE X c (.Tuple es x1 pos) (mTup f) := (pe_tup h).weak (tN on_tup)
theorem f_lst {f : M (List D)} (h : FA X c es f) : FE X c (.List es pos) (mLst f) := (pe_lst h).weak (tN on_lst)
end

/-! ## truth, and, or, not, tests -/
def gNot : D → Option D
  | .bl b => some (.bl (!b))
  | _ => none
/-- a value's bool, as a test -/
def mTb (f : M D) : M Bool := fun e => match f e with
  | some (.bl b, e1) => some (b, e1)
  | _ => none
def mTNot (f : M Bool) : M Bool := fun e => match f e with
  | some (b, e1) => some (!b, e1)
  | _ => none
def mTAnd (f g : M Bool) : M Bool := fun e => match f e with
  | some (b, e1) => bif b then g e1 else some (false, e1)
  | none => none
def mTOr (f g : M Bool) : M Bool := fun e => match f e with
  | some (b, e1) => bif b then some (true, e1) else g e1
  | none => none
/-- truth of a list, a tuple, a text, None, an int -/
def truD : D → Option Bool
  | .bl b => some b
  | .non => some false
  | .int i => some (i != 0)
  | .lst xs => some !xs.isEmpty
  | .tup xs => some !xs.isEmpty
  | .str x => if x.length ≤ sizeLine then some ((x.length : Int) != 0) else none
  | _ => none
def mTru (f : M Hd) : M Bool := fun e => match f e with
  | some (h, e1) => (match deref e1 h with
    | some d => (match truD d with
      | some b => some (b, e1)
      | none => none)
    | none => none)
  | none => none
def mAnd (f g : M D) : M D := fun e => match f e with
  | some (.bl b, e1) => bif b then g e1 else some (.bl false, e1)
  | _ => none
def mOr (f g : M D) : M D := fun e => match f e with
  | some (.bl b, e1) => bif b then some (.bl true, e1) else g e1
  | _ => none
def mIf (t : M Bool) (f g : M D) : M D := fun e => match t e with
  | some (b, e1) => bif b then f e1 else g e1
  | none => none
section
variable {X : Cx} {c : Ct} {e a b t : Expr} {es : List Expr} {pos : Pos}
theorem ft_b {f : M D} (h : FE X c e f) (he : ∀ whole, isTrue e X.env whole = (do let v ← whole; standAt e.pos; holding [v] (truthy v)) := by intro _; rfl) : FT X c e (mTb f) := (pt_val h he).weak fun σ H Q ⟨S, env, d, env', E, e1, k⟩ => by
  unfold mTb at e1
  split at e1
  · rename_i b' e' q
    cases e1
    refine ⟨S, env, _, _, E, q, fun S1 H1 v E1 s1 r1 => ?_⟩
    cases r1
    exact ⟨_, rfl, k S1 H1 E1 s1⟩
  · cases e1
theorem ft_c {f : M D} {op : CmpOp} {r : R2} {ta tb : TE} (ho : OpR X (compareOp op) r) (ha : PE X a ta) (hb : PE X b tb) (hm : behindInMarks op b = false) (w : ∀ σ H Q, tM X.K c f σ H Q → tOp r ta tb σ H Q) : FT X c (.Compare a [op] [b] pos) (mTb f) :=
  (pt_cmpR ho ha hb hm).weak fun σ H Q ⟨S, env, d, env', E, e1, k⟩ => by
    unfold mTb at e1
    split at e1
    · rename_i b' e' q
      cases e1
      refine w σ H _ ⟨S, env, _, _, E, q, fun S1 H1 v E1 s1 r1 => ?_⟩
      cases r1
      exact ⟨_, rfl, k S1 H1 E1 s1⟩
    · cases e1
/-- a comparison as a test -/
theorem ft_cmp {op : CmpOp} {r : R2} {g : D → D → Option D} {fa fb : M Hd} (ho : OpR X (compareOp op) r) (hg : Op2 X.K r g) (ha : FH X c a fa) (hb : FH X c b fb) (hm : behindInMarks op b = false) : FT X c (.Compare a [op] [b] pos) (mTb (m2H g fa fb)) :=
  ft_c ho ha hb hm (t2H hg)
theorem ft_not {f : M Bool} (h : FT X c e f) : FT X c (.UnaryOp .Not e pos) (mTNot f) := (pt_not h).weak fun σ H Q ⟨S, env, d, env', E, e1, k⟩ => by
  unfold mTNot at e1
  split at e1
  · rename_i b' e' q
    cases e1
    exact ⟨S, env, _, _, E, q, fun S1 H1 E1 s1 => k S1 H1 E1 s1⟩
  · cases e1
theorem truV_of {K : PySem.W.Frag} {S H : Hp} {d : D} {v : V} {k : Bool} (w : Vw K S H d v) (hs : Same S H) (h : truD d = some k) : TruV K v H k := by
  cases d with
  | non => rcases w with w | ⟨p, _, w⟩; (cases w; cases h; exact rfl); exact w.elim
  | bl b => rcases w with w | ⟨p, _, w⟩; (cases w; cases h; exact rfl); exact w.elim
  | int i => rcases w with w | ⟨p, _, w⟩; (cases w; cases h; exact rfl); exact w.elim
  | str x =>
    rcases w with w | ⟨p, _, w⟩
    · cases w
      have h' : (if x.length ≤ sizeLine then some ((x.length : Int) != 0) else none) = some k := h
      split at h'
      · rename_i hz
        cases h'
        exact ⟨hz, rfl⟩
      · cases h'
    · exact w.elim
  | lst xs =>
    obtain ⟨a, vs, rfl, hl, r⟩ := w.lst hs
    cases h
    refine .inl ⟨vs, .of hl, ?_⟩
    cases r <;> rfl
  | tup xs =>
    obtain ⟨a, vs, rfl, hl, r⟩ := w.tup hs
    cases h
    refine .inr (.inl ⟨vs, hl.sq, ?_⟩)
    cases r <;> rfl
  | dic xs => cases h
  | obj n xs => cases h
  | scr ns => cases h
  | kls n => cases h
theorem ft_tru {f : M Hd} (h : FH X c e f) (he : ∀ whole, isTrue e X.env whole = (do let v ← whole; standAt e.pos; holding [v] (truthy v)) := by intro _; rfl) : FT X c e (mTru f) := (pt_truth h he).weak fun σ H Q ⟨S, env, d, env', E, e1, k⟩ => by
  unfold mTru at e1
  split at e1
  · rename_i h' e' q
    split at e1
    · rename_i d' q2
      split at e1
      · rename_i b' q3
        cases e1
        exact ⟨S, env, _, _, E, q, fun S1 H1 v E1 s1 r1 => ⟨_, truV_of (view E1 r1 q2) E1.sub q3, k S1 H1 E1 s1⟩⟩
      · cases e1
    · cases e1
  · cases e1
theorem fw_and1 {f : M Bool} (h : FT X c a f) : PW X (.BoolOp .And [a] pos) (tMT X.K c f) := pw_and1 h
theorem fw_or1 {f : M Bool} (h : FT X c a f) : PW X (.BoolOp .Or [a] pos) (tMT X.K c f) := pw_or1 h
theorem fw_and {f g : M Bool} (h : FT X c a f) (h2 : PW X (.BoolOp .And (b :: es) pos) (tMT X.K c g)) : PW X (.BoolOp .And (a :: b :: es) pos) (tMT X.K c (mTAnd f g)) := (pw_and h h2).weak fun σ H Q ⟨S, env, d, env', E, e1, k⟩ => by
  unfold mTAnd at e1
  split at e1
  · rename_i b' e' q
    cases b' with
    | true => exact ⟨S, env, _, _, E, q, fun S1 H1 E1 s1 => iteT ⟨S1, _, _, _, E1, e1, fun S2 H2 E2 s2 => k S2 H2 E2 (s1.trans s2)⟩⟩
    | false =>
      cases e1
      exact ⟨S, env, _, _, E, q, fun S1 H1 E1 s1 => iteF (k S1 H1 E1 s1)⟩
  · cases e1
theorem fw_or {f g : M Bool} (h : FT X c a f) (h2 : PW X (.BoolOp .Or (b :: es) pos) (tMT X.K c g)) : PW X (.BoolOp .Or (a :: b :: es) pos) (tMT X.K c (mTOr f g)) := (pw_or h h2).weak fun σ H Q ⟨S, env, d, env', E, e1, k⟩ => by
  unfold mTOr at e1
  split at e1
  · rename_i b' e' q
    cases b' with
    | false => exact ⟨S, env, _, _, E, q, fun S1 H1 E1 s1 => iteF ⟨S1, _, _, _, E1, e1, fun S2 H2 E2 s2 => k S2 H2 E2 (s1.trans s2)⟩⟩
    | true =>
      cases e1
      exact ⟨S, env, _, _, E, q, fun S1 H1 E1 s1 => iteT (k S1 H1 E1 s1)⟩
  · cases e1
theorem f_not {f : M D} (h : FE X c e f) : FE X c (.UnaryOp .Not e pos) (m1 gNot f) := (pe_not h).weak fun σ H Q ⟨S, env, d, env', E, e1, k⟩ => by
  unfold m1 at e1
  split at e1
  · cases e1
  · rename_i da ea qa
    split at e1
    · cases e1
    · rename_i z qz
      cases e1
      unfold gNot at qz
      split at qz
      · cases qz
        refine ⟨S, env, _, _, E, qa, fun S1 H1 v E1 s1 r1 => ?_⟩
        cases r1
        exact ⟨_, rfl, k S1 H1 _ E1 s1 (.bl _)⟩
      · cases qz
theorem f_one {op} {f : M D} (h : FE X c a f) : FE X c (.BoolOp op [a] pos) f := pe_one h
theorem f_and {f g : M D} (h : FE X c a f) (h2 : FE X c (.BoolOp .And (b :: es) pos) g) : FE X c (.BoolOp .And (a :: b :: es) pos) (mAnd f g) := (pe_and h h2).weak fun σ H Q ⟨S, env, d, env', E, e1, k⟩ => by
  unfold mAnd at e1
  split at e1
  · rename_i b' e' q
    refine ⟨S, env, _, _, E, q, fun S1 H1 v E1 s1 r1 => ?_⟩
    cases r1
    cases b' with
    | true => exact ⟨_, rfl, iteT ⟨S1, _, _, _, E1, e1, fun S2 H2 v E2 s2 r2 => k S2 H2 v E2 (s1.trans s2) r2⟩⟩
    | false =>
      cases e1
      exact ⟨_, rfl, iteF (k S1 H1 _ E1 s1 (.bl _))⟩
  · cases e1
theorem f_or {f g : M D} (h : FE X c a f) (h2 : FE X c (.BoolOp .Or (b :: es) pos) g) : FE X c (.BoolOp .Or (a :: b :: es) pos) (mOr f g) := (pe_or h h2).weak fun σ H Q ⟨S, env, d, env', E, e1, k⟩ => by
  unfold mOr at e1
  split at e1
  · rename_i b' e' q
    refine ⟨S, env, _, _, E, q, fun S1 H1 v E1 s1 r1 => ?_⟩
    cases r1
    cases b' with
    | false => exact ⟨_, rfl, iteF ⟨S1, _, _, _, E1, e1, fun S2 H2 v E2 s2 r2 => k S2 H2 v E2 (s1.trans s2) r2⟩⟩
    | true =>
      cases e1
      exact ⟨_, rfl, iteT (k S1 H1 _ E1 s1 (.bl _))⟩
  · cases e1
theorem f_if {ft : M Bool} {f g : M D} (ht : FT X c t ft) (h : FE X c a f) (h2 : FE X c b g) : FE X c (.IfExp t a b pos) (mIf ft f g) := (pe_ifExp ht h h2).weak fun σ H Q ⟨S, env, d, env', E, e1, k⟩ => by
  unfold mIf at e1
  split at e1
  · rename_i b' e' q
    cases b' with
    | true => exact ⟨S, env, _, _, E, q, fun S1 H1 E1 s1 => iteT ⟨S1, _, _, _, E1, e1, fun S2 H2 v E2 s2 r2 => k S2 H2 v E2 (s1.trans s2) r2⟩⟩
    | false => exact ⟨S, env, _, _, E, q, fun S1 H1 E1 s1 => iteF ⟨S1, _, _, _, E1, e1, fun S2 H2 v E2 s2 r2 => k S2 H2 v E2 (s1.trans s2) r2⟩⟩
  · cases e1
end

/-! ## chains a < b < c -/
def mChain (g g' : D → D → Option D) (fa fb fc : M D) : M D := fun e => match fa e with
  | none => none
  | some (a, e1) => match fb e1 with
    | none => none
    | some (b, e2) => match g a b with
      | some (.bl k) => bif k then (match fc e2 with
        | none => none
        | some (c, e3) => match g' b c with
          | none => none
          | some z => some (z, e3)) else some (.bl false, e2)
      | _ => none
section
variable {X : Cx} {c : Ct} {e a b d : Expr} {pos : Pos}
theorem tCh {r r' : R2} {g g' : D → D → Option D} {fa fb fc : M D} (ho : Op2 X.K r g) (ho' : Op2 X.K r' g') (σ : L2.St) (H : Hp) (Q : VK) (h : tM X.K c (mChain g g' fa fb fc) σ H Q) : tChain r r' (tM X.K c fa) (tM X.K c fb) (tM X.K c fc) σ H Q := by
  obtain ⟨S, env, d, env', E, e1, k⟩ := h
  unfold mChain at e1
  split at e1
  · cases e1
  · rename_i da ea qa
    split at e1
    · cases e1
    · rename_i db eb qb
      refine ⟨S, env, da, ea, E, qa, fun S1 H1 v1 E1 s1 r1 => ⟨S1, ea, db, eb, E1, qb, fun S2 H2 v2 E2 s2 r2 => ?_⟩⟩
      split at e1
      · rename_i kk qz
        cases kk with
        | true =>
          have e1' : (match fc eb with
            | none => none
            | some (c, e3) => match g' db c with
              | none => none
              | some z => some (z, e3)) = some (d, env') := e1
          split at e1'
          · cases e1'
          · rename_i dc ec qc
            split at e1'
            · cases e1'
            · rename_i z qz'
              cases e1'
              refine ho S2 H2 da db _ v1 v2 _ qz (.inl (r1.mono s2)) (.inl r2) E2.sub (fun v r => ?_) fun p o hp r => ?_
              · cases r
                refine ⟨true, rfl, iteT ⟨S2, eb, dc, _, E2, qc, fun S3 H3 v3 E3 s3 r3 => ?_⟩⟩
                exact ho' S3 H3 db dc _ v2 v3 Q qz' (.inl (r2.mono s3)) (.inl r3) E3.sub (fun v r => k S3 H3 v E3 ((s1.trans s2).trans s3) r)
                  fun p o hp r => k _ _ _ (E3.laid o hp) (((s1.trans s2).trans s3).trans (same_upd (E3.sub.free hp))) r
              · cases r
        | false =>
          cases e1
          refine ho S2 H2 da db _ v1 v2 _ qz (.inl (r1.mono s2)) (.inl r2) E2.sub (fun v r => ?_) fun p o hp r => ?_
          · cases r
            exact ⟨false, rfl, iteF (k S2 H2 _ E2 (s1.trans s2) (.bl _))⟩
          · cases r
      · cases e1
theorem f_chain {op op' : CmpOp} {r r' : R2} {g g' : D → D → Option D} {fa fb fc : M D} (ho : OpR X (compareOp op) r) (ho' : OpR X (compareOp op') r') (hg : Op2 X.K r g) (hg' : Op2 X.K r' g') (ha : FE X c a fa) (hb : FE X c b fb) (hd : FE X c d fc)
    (hm : lastMarks [op, op'] [b, d] = false := by with_unfolding_all rfl) : FE X c (.Compare a [op, op'] [b, d] pos) (mChain g g' fa fb fc) := (pe_chain ho ho' ha hb hd hm).weak (tCh hg hg')
theorem ft_chain {op op' : CmpOp} {r r' : R2} {g g' : D → D → Option D} {fa fb fc : M D} (ho : OpR X (compareOp op) r) (ho' : OpR X (compareOp op') r') (hg : Op2 X.K r g) (hg' : Op2 X.K r' g') (ha : FE X c a fa) (hb : FE X c b fb) (hd : FE X c d fc)
    (hm : lastMarks [op, op'] [b, d] = false := by with_unfolding_all rfl) : FT X c (.Compare a [op, op'] [b, d] pos) (mTb (mChain g g' fa fb fc)) :=
  (pt_chain ho ho' ha hb hd hm).weak fun σ H Q ⟨S, env, d, env', E, e1, k⟩ => by
    unfold mTb at e1
    split at e1
    · rename_i b' e' q
      cases e1
      refine tCh hg hg' σ H _ ⟨S, env, _, _, E, q, fun S1 H1 v E1 s1 r1 => ?_⟩
      cases r1
      exact ⟨_, rfl, k S1 H1 E1 s1⟩
    · cases e1
end

/-! ## statements -/
def sSeq (f g : FS) : FS := fun e => match f e with
  | some (.nx e1) => g e1
  | r => r
def sNil : FS := fun e => some (.nx e)
def sIf (t : M Bool) (f g : FS) : FS := fun e => match t e with
  | some (b, e1) => bif b then f e1 else g e1
  | none => none
def sRet (f : M D) : FS := fun e => match f e with
  | some (d, e1) => some (.rt d e1)
  | none => none
def sDrop (f : M D) : FS := fun e => match f e with
  | some (_, e1) => some (.nx e1)
  | none => none
/-- a slot takes a shared value -/
def lentS : Sl → Bool
  | .ow false _ => true
  | _ => false
def gSet (i : Nat) : FG := fun d e => match e[i]? with
  | some s => if lentS s = true then none else some (e.set i (.sh d))
  | none => none
theorem lentS_no {s : Sl} (h : ¬ lentS s = true) {d : D} : s ≠ .ow false d := fun z => by subst z; exact h rfl
def gSets : List FG → List D → En → Option En
  | [], [], e => some e
  | g :: gs, d :: ds, e => match g d e with
    | some e1 => gSets gs ds e1
    | none => none
  | _, _, _ => none
def gUn (gs : List FG) : FG := fun d e => match d with
  | .tup ds => gSets gs ds e
  | _ => none
def sAsg (g : FG) (f : M D) : FS := fun e => match f e with
  | some (d, e1) => (match g d e1 with
    | some e2 => some (.nx e2)
    | none => none)
  | none => none
section
variable {X : Cx} {c : Ct} {e a b t tg : Expr} {es : List Expr} {pos pos' : Pos} {st : Stmt} {rest : List Stmt}
theorem fs_nil : FSs X c [] sNil := pss_nil.weak fun D' σ H ⟨S, env, o, E, e1, k⟩ => by
  cases e1
  exact k S H σ E (Same.refl _)
theorem oK.mono {K : PySem.W.Frag} {S S' : Hp} {D' : Ends} {o : Out} (h : oK K c S D' o) (s : Same S S') : oK K c S' D' o := by
  cases o with
  | nx e => exact fun S1 H1 σ1 E1 s1 => h S1 H1 σ1 E1 (s.trans s1)
  | rt d e => exact fun S1 H1 σ1 v E1 s1 r => h S1 H1 σ1 v E1 (s.trans s1) r
  | bk e => exact fun S1 H1 σ1 E1 s1 => h S1 H1 σ1 E1 (s.trans s1)
  | ct e => exact fun S1 H1 σ1 E1 s1 => h S1 H1 σ1 E1 (s.trans s1)
  | ro d e => exact fun S1 H1 σ1 p E1 s1 => h S1 H1 σ1 p E1 (s.trans s1)
theorem fs_cons {f g : FS} (h : FSt X c st f) (h2 : FSs X c rest g) : FSs X c (st :: rest) (sSeq f g) := (pss_cons h h2).weak fun D' σ H ⟨S, env, o, E, e1, k⟩ => by
  unfold sSeq at e1
  split at e1
  · rename_i e' q
    exact ⟨S, env, _, E, q, fun S1 H1 σ1 E1 s1 => ⟨S1, _, _, E1, e1, k.mono s1⟩⟩
  · rename_i hn
    refine ⟨S, env, o, E, e1, ?_⟩
    cases o with
    | nx e => exact absurd e1 (hn e)
    | rt d e => exact k
    | bk e => exact k
    | ct e => exact k
    | ro d e => exact k
theorem fs_one {f : FS} (h : FSt X c st f) : FSs X c [st] f := pss_one h
theorem fs_if {ft : M Bool} {f g : FS} {u v : List Stmt} (ht : FT X c t ft) (h : FSs X c u f) (h2 : FSs X c v g) : FSt X c (.If t u v pos) (sIf ft f g) := (ps_if ht h h2).weak fun D' σ H ⟨S, env, o, E, e1, k⟩ => by
  unfold sIf at e1
  split at e1
  · rename_i b' e' q
    cases b' with
    | true => exact ⟨S, env, _, _, E, q, fun S1 H1 E1 s1 => iteT ⟨S1, _, _, E1, e1, k.mono s1⟩⟩
    | false => exact ⟨S, env, _, _, E, q, fun S1 H1 E1 s1 => iteF ⟨S1, _, _, E1, e1, k.mono s1⟩⟩
  · cases e1
theorem fs_ret {f : M D} (h : FE X c e f) : FSt X c (.Return (some e) pos) (sRet f) := (ps_ret h).weak fun D' σ H ⟨S, env, o, E, e1, k⟩ => by
  unfold sRet at e1
  split at e1
  · rename_i d e' q
    cases e1
    exact ⟨S, env, _, _, E, q, fun S1 H1 v E1 s1 r1 => k S1 H1 σ v E1 s1 r1⟩
  · cases e1
theorem fs_retN : FSt X c (.Return none pos) (sRet (mC .non)) := ps_retN.weak fun D' σ H ⟨S, env, o, E, e1, k⟩ => by
  cases e1
  exact k S H σ _ E (Same.refl _) .non
theorem fs_pass : FSt X c (.Pass pos) sNil := ps_pass.weak fun D' σ H ⟨S, env, o, E, e1, k⟩ => by
  cases e1
  exact k S H σ E (Same.refl _)
theorem fs_break : FSt X c (.Break pos) (fun e => some (.bk e)) := ps_break.weak fun D' σ H ⟨S, env, o, E, e1, k⟩ => by
  cases e1
  exact k S H σ E (Same.refl _)
theorem fs_continue : FSt X c (.Continue pos) (fun e => some (.ct e)) := ps_continue.weak fun D' σ H ⟨S, env, o, E, e1, k⟩ => by
  cases e1
  exact k S H σ E (Same.refl _)
theorem fs_expr {f : M D} (h : FE X c e f) (hs : swapsWith e none pos.line X.env = pure false := by rfl) : FSt X c (.Expr e pos) (sDrop f) := (ps_expr h hs).weak fun D' σ H ⟨S, env, o, E, e1, k⟩ => by
  unfold sDrop at e1
  split at e1
  · rename_i d e' q
    cases e1
    exact ⟨S, env, _, _, E, q, fun S1 H1 v E1 s1 r1 => k S1 H1 σ E1 s1⟩
  · cases e1
theorem gSet_ok {K : PySem.W.Frag} {S H : Hp} {σ : L2.St} {env e' : En} {i : Nat} {d : D} {v : V} (E : Er K c S H σ env) (h : gSet i d env = some e') (r : RelD K S d v) : Er K c S H (σ.set i (some v)) e' := by
  unfold gSet at h
  split at h
  · rename_i s q
    split at h
    · cases h
    · rename_i hl
      cases h
      exact E.put (fun e z => by rw [q] at z; exact lentS_no hl (Option.some.inj z)) r
  · cases h
theorem fg_name {i : Nat} {x : Str} (h : PG X (.Name x pos) (gName i)) : FGt X c (.Name x pos) (gSet i) := h.weak fun v σ H Q ⟨S, env, d, e', E, r, h1, k⟩ =>
  k _ S H (gSet_ok E h1 r) (Same.refl _)
def tGs (K : PySem.W.Frag) (c : Ct) (gs : List FG) : TGs := fun vs σ H Q => ∃ S env ds e', Er K c S H σ env ∧ RelDs K S ds vs ∧ gSets gs ds env = some e' ∧ ∀ σ' S' H', Er K c S' H' σ' e' → Same S S' → Q σ' H'
theorem fgs_nil : PGs X [] (tGs X.K c []) := ⟨fun pins s σ H vs us Q I r ⟨S, env, ds, e', E, rs, h, k⟩ => by
  cases ds with
  | nil =>
    cases rs
    cases h
    exact pgs_nil.run pins s σ H [] us Q I r ⟨rfl, k σ S H E (Same.refl _)⟩
  | cons _ _ => cases h⟩
theorem fgs_cons {g : FG} {gs : List FG} (h1 : FGt X c e g) (h2 : PGs X es (tGs X.K c gs)) (hs : (assignEach (e :: es) X.env).map (·.2) = assign e X.env :: (assignEach es X.env).map (·.2) := by rfl) : PGs X (e :: es) (tGs X.K c (g :: gs)) :=
  ⟨fun pins s σ H vs us Q I r ⟨S, env, ds, e', E, rs, h, k⟩ => by
    cases ds with
    | nil => cases h
    | cons d ds =>
      cases rs with
      | cons r1 rs =>
        have h' : (match g d env with
          | some e1 => gSets gs ds e1
          | none => none) = some e' := h
        split at h'
        · rename_i e1 q
          refine (pgs_cons h1 h2 hs).run pins s σ H _ us Q I r ⟨_, _, rfl, S, env, d, e1, E, r1, q, fun σ1 S1 H1 E1 s1 => ?_⟩
          exact ⟨S1, e1, ds, e', E1, rs.mono s1, h', fun σ2 S2 H2 E2 s2 => k σ2 S2 H2 E2 (s1.trans s2)⟩
        · cases h'⟩
theorem gSets_len : ∀ {gs : List FG} {ds : List D} {env e' : En}, gSets gs ds env = some e' → ds.length = gs.length
  | [], [], _, _, _ => rfl
  | [], _ :: _, _, _, h => by cases h
  | _ :: _, [], _, _, h => by cases h
  | g :: gs, d :: ds, env, e', h => by
    have h' : (match g d env with
      | some e1 => gSets gs ds e1
      | none => none) = some e' := h
    split at h'
    · exact congrArg (· + 1) (gSets_len h')
    · cases h'
theorem fg_tup {gs : List FG} {k n : Nat} (hc : X.calm = true) (h : PGs X es (tGs X.K c gs)) (hl : gs.length = n) (hn : (assignEach es X.env).length = n := by rfl) (hst : (assignEach es X.env).findIdx? (·.1) = none := by rfl) : FGt X c (.Tuple es k pos) (gUn gs) :=
  (pg_tup hc h hn hst).weak fun v σ H Q ⟨S, env, d, e', E, r, h1, kk⟩ => by
    unfold gUn at h1
    split at h1
    · rename_i ds
      cases r with
      | tup ht rs =>
        refine ⟨_, _, rfl, sqT_same E.sub ht.sq, ?_, S, env, ds, e', E, rs, h1, kk⟩
        rw [← rs.length, ← hl]
        exact gSets_len h1
    · cases h1
theorem fs_asg {f : M D} {g : FG} (h : FE X c e f) (hg : FGt X c tg g) (hs : swapsWithSole [tg] e pos.line X.env = pure false := by rfl) (hw : swappedStores [tg] e X.env = pure none := by rfl) (h1 : (assignEach [tg] X.env).map (·.2) = [assign tg X.env] := by rfl) :
    FSt X c (.Assign [tg] e pos) (sAsg g f) := (ps_asg h hg hs hw h1).weak fun D' σ H ⟨S, env, o, E, e1, k⟩ => by
  unfold sAsg at e1
  split at e1
  · rename_i d e' q
    split at e1
    · rename_i e2 q2
      cases e1
      exact ⟨S, env, _, _, E, q, fun S1 H1 v E1 s1 r1 => ⟨S1, e', d, e2, E1, r1, q2, fun σ2 S2 H2 E2 s2 => k S2 H2 σ2 E2 (s1.trans s2)⟩⟩
    · cases e1
  · cases e1
end
end FL

set_option Elab.async false
set_option linter.all false
set_option maxRecDepth 100000
set_option maxHeartbeats 2000000
namespace FL
open PySem PySem.Spec PyProof.Rows L2

/-! ## a part of the work, seen from its own beginning -/
def lend (e : En) : En := e.map fun s => match s with
  | .ow _ d => .ow false d
  | s => s
def backS : Sl → Sl → Sl
  | .ow f _, .ow _ d => .ow f d
  | _, s => s
def back (e e2 : En) : En := List.zipWith backS e e2
def lentOf (σ : L2.St) (e : En) : Nat → Option Addr := fun i => match e[i]?, σ[i]? with
  | some (.ow _ _), some (some (.ref p)) => some p
  | _, _ => none
section
variable {K : PySem.W.Frag} {L : Nat → Option Addr} {S0 H0 S H S' H' : Hp} {σ : L2.St} {env e2 : En}
theorem lentOf_some {i : Nat} {p : Addr} (h : lentOf σ env i = some p) : ∃ f d, env[i]? = some (.ow f d) ∧ σ[i]? = some (some (.ref p)) := by
  unfold lentOf at h
  split at h
  · rename_i f d q a b c
    cases h
    exact ⟨_, _, b, c⟩
  · cases h
theorem lend_ow {i : Nat} {f : Bool} {d : D} (h : (lend env)[i]? = some (.ow f d)) : f = false ∧ ∃ g, env[i]? = some (.ow g d) := by
  unfold lend at h
  rw [List.getElem?_map] at h
  cases e : env[i]? with
  | none => rw [e] at h; cases h
  | some s =>
    rw [e] at h
    cases s with
    | un => cases h
    | sh d' => cases h
    | ow g d' => cases h; exact ⟨rfl, g, rfl⟩
theorem lend_sh {i : Nat} {d : D} (h : (lend env)[i]? = some (.sh d)) : env[i]? = some (.sh d) := by
  unfold lend at h
  rw [List.getElem?_map] at h
  cases e : env[i]? with
  | none => rw [e] at h; cases h
  | some s =>
    rw [e] at h
    cases s with
    | un => cases h
    | sh d' => cases h; rfl
    | ow g d' => cases h
theorem lend_of {i : Nat} {f : Bool} {d : D} (h : env[i]? = some (.ow f d)) : (lend env)[i]? = some (.ow false d) := by
  unfold lend
  rw [List.getElem?_map, h]
  rfl
theorem ER.rebase (h : ER K L S0 H0 S H σ env) : ER K (lentOf σ env) S H S H σ (lend env) := by
  refine ⟨h.sub, by unfold lend; rw [List.length_map]; exact h.len, fun i d q => h.sh i d (lend_sh q), fun i f d q => ?_, fun i j f g d e p hij q1 q2 q3 => ?_, Same.refl _, fun _ z => z, fun _ _ z _ => z, fun _ z => .inl z, fun i p q => ?_, fun i p q => ?_⟩
  · obtain ⟨rfl, g, q'⟩ := lend_ow q
    obtain ⟨p, a, b, c', _⟩ := h.ow i g d q'
    refine ⟨p, a, b, c', ?_⟩
    rw [if_neg (by decide)]
    unfold lentOf
    rw [q', a]
  · obtain ⟨rfl, g1, r1⟩ := lend_ow q1
    obtain ⟨rfl, g2, r2⟩ := lend_ow q2
    exact h.dis i j g1 g2 d e p hij r1 r2 q3
  · obtain ⟨f, d, a, b⟩ := lentOf_some q
    exact ⟨b, d, lend_of a⟩
  · obtain ⟨f, d, a, b⟩ := lentOf_some q
    obtain ⟨p', b', o, _⟩ := h.ow i f d a
    rw [b] at b'; cases b'
    exact o.there
theorem back_get {i : Nat} {s : Sl} (h : (back env e2)[i]? = some s) : ∃ a b, env[i]? = some a ∧ e2[i]? = some b ∧ s = backS a b := by
  unfold back at h
  rw [List.getElem?_zipWith] at h
  cases ea : env[i]? with
  | none => rw [ea] at h; cases h
  | some a =>
    cases eb : e2[i]? with
    | none => rw [ea, eb] at h; cases h
    | some b => rw [ea, eb] at h; cases h; exact ⟨a, b, rfl, rfl, rfl⟩
theorem backS_ow {a b : Sl} {f : Bool} {d : D} (h : backS a b = .ow f d) : ∃ g, b = .ow g d ∧ ((∃ d0, a = .ow f d0) ∨ ((∀ f0 d0, a ≠ .ow f0 d0) ∧ g = f)) := by
  cases a with
  | ow f0 d0 =>
    cases b with
    | ow g d' => cases h; exact ⟨g, rfl, .inl ⟨d0, rfl⟩⟩
    | un => cases h
    | sh d' => cases h
  | un => cases b <;> first | (cases h; done) | (cases h; exact ⟨_, rfl, .inr ⟨fun _ _ z => (by cases z), rfl⟩⟩)
  | sh x => cases b <;> first | (cases h; done) | (cases h; exact ⟨_, rfl, .inr ⟨fun _ _ z => (by cases z), rfl⟩⟩)
theorem backS_sh {a b : Sl} {d : D} (h : backS a b = .sh d) : b = .sh d := by
  cases a <;> cases b <;> first | (cases h; done) | (cases h; rfl)
theorem ER.unbase (E : ER K L S0 H0 S H σ env) (E2 : ER K (lentOf σ env) S H S' H' σ e2) : ER K L S0 H0 S' H' σ (back env e2) := by
  have h0 : ∀ b, H b = none → H0 b = none := fun b q => by
    cases e : H0 b with
    | none => rfl
    | some o => exact absurd q (E.dom b (by rw [e]; exact fun z => nomatch z))
  refine ⟨E2.sub, by unfold back; rw [List.length_zipWith, E.len, E2.len]; omega, fun i d q => ?_, fun i f d q => ?_, fun i j f g d e p hij q1 q2 q3 => ?_, E.s0.trans E2.s0, fun b q => E2.dom b (E.dom b q), fun b o q hl => ?_, fun b q => ?_, fun i p q => ?_, E.lsd⟩
  · obtain ⟨a, b, ha, hb, e⟩ := back_get q
    exact E2.sh i d (by rw [hb, backS_sh e.symm])
  · obtain ⟨a, b, ha, hb, e⟩ := back_get q
    obtain ⟨g, rfl, hc⟩ := backS_ow e.symm
    obtain ⟨p, x, y, z, w⟩ := E2.ow i g d hb
    refine ⟨p, x, y, z, ?_⟩
    rcases hc with ⟨d0, rfl⟩ | ⟨hn, rfl⟩
    · obtain ⟨p', x', _, _, w'⟩ := E.ow i f d0 ha
      rw [x] at x'; cases x'
      exact w'
    · cases g with
      | true => rw [if_pos rfl] at w ⊢; exact h0 p w
      | false =>
        rw [if_neg (by decide)] at w
        obtain ⟨f0, d0, r, _⟩ := lentOf_some w
        rw [ha] at r; cases r
        exact absurd rfl (hn f0 d0)
  · obtain ⟨a1, b1, ha1, hb1, e1⟩ := back_get q1
    obtain ⟨a2, b2, ha2, hb2, e2'⟩ := back_get q2
    obtain ⟨g1, rfl, _⟩ := backS_ow e1.symm
    obtain ⟨g2, rfl, _⟩ := backS_ow e2'.symm
    exact E2.dis i j g1 g2 d e p hij hb1 hb2 q3
  · refine E2.kep b o (E.kep b o q hl) fun i z => ?_
    obtain ⟨f, d, a, x⟩ := lentOf_some z
    obtain ⟨p', x', _, _, w⟩ := E.ow i f d a
    rw [x] at x'; cases x'
    cases f with
    | true => rw [if_pos rfl] at w; rw [w] at q; cases q
    | false => rw [if_neg (by decide)] at w; exact hl i w
  · rcases E2.frs b q with z | z
    · exact E.frs b z
    · exact .inr (h0 b z)
  · obtain ⟨x, d, a⟩ := E.lnt i p q
    refine ⟨x, ?_⟩
    have hl : lentOf σ env i = some p := by unfold lentOf; rw [a, x]
    obtain ⟨_, d', b⟩ := E2.lnt i p hl
    refine ⟨d', ?_⟩
    unfold back
    rw [List.getElem?_zipWith, a, b]
    rfl
/-- others have worked and kept all that stood -/
theorem ER.grow (E : ER K L S0 H0 S H σ env) (a : Same S S') (b : Same S' H') (d : ∀ x, H x ≠ none → H' x ≠ none) (k : Same H H') (f : ∀ x, S' x ≠ none → S x ≠ none ∨ H x = none) : ER K L S0 H0 S' H' σ env := by
  have h0 : ∀ b, H b = none → H0 b = none := fun b q => by
    cases e : H0 b with
    | none => rfl
    | some o => exact absurd q (E.dom b (by rw [e]; exact fun z => nomatch z))
  have out : ∀ p, H p ≠ none → S p = none → S' p = none := fun p h1 h2 => by
    cases e : S' p with
    | none => rfl
    | some o =>
      rcases f p (by rw [e]; exact fun z => nomatch z) with z | z
      · exact absurd h2 z
      · exact absurd z h1
  refine ⟨b, E.len, fun i d q => ?_, fun i g d q => ?_, E.dis, E.s0.trans a, fun x q => d x (E.dom x q), fun x o q hl => k x o (E.kep x o q hl), fun x q => ?_, E.lnt, E.lsd⟩
  · obtain ⟨v, x, r⟩ := E.sh i d q
    exact ⟨v, x, r.mono a⟩
  · obtain ⟨p, x, y, z, w⟩ := E.ow i g d q
    have same : H' p = H p := by
      cases e : H p with
      | none => exact absurd e y.there
      | some o => exact k p o e
    exact ⟨p, x, y.mono a same, out p y.there z, w⟩
  · rcases f x q with z | z
    · exact E.frs x z
    · exact .inr (h0 x z)
/-- .. all but the object of slot i, which they have changed -/
theorem ER.growL (E : ER K L S0 H0 S H σ env) {i : Nat} {fl : Bool} {d0 d' : D} {p0 : Addr} (hi : env[i]? = some (.ow fl d0)) (hp : σ[i]? = some (some (.ref p0))) (a : Same S S') (b : Same S' H') (d : ∀ x, H x ≠ none → H' x ≠ none) (k : ∀ x o, H x = some o → x ≠ p0 → H' x = some o)
    (f : ∀ x, S' x ≠ none → S x ≠ none ∨ H x = none) (r : OwnAt K S' H' d' p0) : ER K L S0 H0 S' H' σ (env.set i (.ow fl d')) := by
  obtain ⟨p1, x1, y1, z1, w1⟩ := E.ow i fl d0 hi
  rw [hp] at x1; cases x1
  -- first as if the object stood as it was
  cases e0 : H p0 with
  | none => exact absurd e0 y1.there
  | some ob =>
    have n0 : S' p0 = none := by
      cases e : S' p0 with
      | none => rfl
      | some o =>
        rcases f p0 (by rw [e]; exact fun z => nomatch z) with z | z
        · exact absurd z1 z
        · exact absurd z y1.there
    have E1 : ER K L S0 H0 S' (upd H' p0 ob) σ env := E.grow a (fun x o q => by
        rw [upd_ne (fun z => by subst z; rw [n0] at q; cases q)]; exact b x o q) (fun x q => by
        by_cases hx : x = p0
        · subst hx; rw [upd_same]; exact fun z => nomatch z
        · rw [upd_ne hx]; exact d x q) (fun x o q => by
        by_cases hx : x = p0
        · subst hx; rw [upd_same]; rw [e0] at q; exact q
        · rw [upd_ne hx]; exact k x o q hx) f
    exact E1.chg hi hp (fun x hx => (upd_ne hx).symm) r
end
end FL

set_option Elab.async false
set_option linter.all false
set_option maxRecDepth 100000
set_option maxHeartbeats 2000000
namespace FL
open PySem PySem.Spec PyProof.Rows L2

/-! ## defs as functions of their arguments -/
/-- the arguments (shared, or lent), to the result and what is lent -/
abbrev Fn := En → Option (D × En)
def spF (K : PySem.W.Frag) (φ : Fn) : Sp := fun vs H Q _ => ∃ (L : Nat → Option Addr) (S : Hp) (env : En) (d : D) (env' : En), ER K L S H S H (vs.map some) env ∧ φ env = some (d, env') ∧
  ∀ S' H' v, ER K L S H S' H' (vs.map some) env' → Same S S' → RelD K S' d v → Q v H'
/-- .. the result a new object that nobody holds -/
def spO (K : PySem.W.Frag) (φ : Fn) : Sp := fun vs H Q _ => ∃ (L : Nat → Option Addr) (S : Hp) (env : En) (d : D) (env' : En), ER K L S H S H (vs.map some) env ∧ φ env = some (d, env') ∧
  ∀ S' H' p, ER K L S H S' H' (vs.map some) env' → Same S S' → OwnAt K S' H' d p → S' p = none → H p = none → Q (.ref p) H'
def cutS : Sl → Sl
  | .ow false d => .ow false d
  | _ => .un
def cut (m : Nat) (e : En) : En := (e.take m).map cutS
/-- a def of m parameters and n names -/
def endF (m : Nat) (d : D) (e : En) : Option (D × En) := if m ≤ e.length then some (d, cut m e) else none
def mkFn (n m : Nat) (fb : FS) : Fn := fun env => if env.length = m then (match fb (env ++ List.replicate (n - m) .un) with
  | some (.rt d e) => endF m d e
  | some (.nx e) => endF m .non e
  | _ => none) else none
def mkFnO (n m : Nat) (fb : FS) : Fn := fun env => if env.length = m then (match fb (env ++ List.replicate (n - m) .un) with
  | some (.ro d e) => endF m d e
  | _ => none) else none
theorem endF_some {m : Nat} {d d' : D} {e e' : En} (h : endF m d e = some (d', e')) : m ≤ e.length ∧ d' = d ∧ e' = cut m e := by
  unfold endF at h
  split at h
  · cases h; exact ⟨by assumption, rfl, rfl⟩
  · cases h
section
variable {K : PySem.W.Frag} {L : Nat → Option Addr} {S0 H0 S H S' H' : Hp} {σ : L2.St} {env e2 : En}
theorem ER.start {vs : List V} {N : List Str} (E : ER K L S H S H (vs.map some) env) : ER K L S H S H (start N vs) (env ++ List.replicate (N.length - env.length) .un) := by
  have len : env.length = vs.length := by have := E.len; rwa [List.length_map] at this
  have low : ∀ i x, (vs.map some)[i]? = some x → (L2.start N vs)[i]? = some x := fun i x q => by
    unfold L2.start
    rw [List.getElem?_append_left (List.getElem?_eq_some_iff.mp q).1]; exact q
  have slot : ∀ (i : Nat) (s : Sl), (env ++ List.replicate (N.length - env.length) Sl.un)[i]? = some s → env[i]? = some s ∨ s = .un := fun i s q => by
    by_cases hi : i < env.length
    · rw [List.getElem?_append_left hi] at q; exact .inl q
    · rw [List.getElem?_append_right (by omega), List.getElem?_replicate] at q
      split at q <;> cases q
      exact .inr rfl
  refine ⟨E.sub, by unfold L2.start; simp [len], fun i d q => ?_, fun i f d q => ?_, fun i j f g d e p hij q1 q2 q3 => ?_, E.s0, E.dom, E.kep, E.frs, fun i p q => ?_, E.lsd⟩
  · rcases slot i _ q with q | q
    · obtain ⟨v, a, r⟩ := E.sh i d q
      exact ⟨v, low i _ a, r⟩
    · cases q
  · rcases slot i _ q with q | q
    · obtain ⟨p, a, r⟩ := E.ow i f d q
      exact ⟨p, low i _ a, r⟩
    · cases q
  · rcases slot i _ q1 with q1 | q1
    · rcases slot j _ q2 with q2 | q2
      · obtain ⟨p1, a1, _⟩ := E.ow i f d q1
        obtain ⟨p2, a2, _⟩ := E.ow j g e q2
        have b1 := low i _ a1
        rw [b1] at q3; cases q3
        rw [low j _ a2]
        intro z; cases z
        exact E.dis i j f g d e _ hij q1 q2 a1 a2
      · cases q2
    · cases q1
  · obtain ⟨a, d, b⟩ := E.lnt i p q
    refine ⟨low i _ a, d, ?_⟩
    rw [List.getElem?_append_left (List.getElem?_eq_some_iff.mp b).1]; exact b
/-- at a def's end: what was lent is handed back -/
theorem ER.finish {vs : List V} {env0 : En} (E0 : ER K L S0 H0 S0 H0 (vs.map some) env0) (E : ER K L S0 H0 S' H' σ env) (hl : env0.length ≤ env.length) : ER K L S0 H0 S' H' (vs.map some) (cut env0.length env) := by
  have len : env0.length = vs.length := by have := E0.len; rwa [List.length_map] at this
  have own : ∀ (i : Nat) (f : Bool) (d : D), (cut env0.length env)[i]? = some (.ow f d) → f = false ∧ env[i]? = some (.ow false d) := fun i f d q => by
    unfold cut at q
    rw [List.getElem?_map] at q
    cases e : (env.take env0.length)[i]? with
    | none => rw [e] at q; cases q
    | some s =>
      rw [e] at q
      have e' : env[i]? = some s := by
        rw [List.getElem?_take] at e
        split at e
        · exact e
        · cases e
      cases s with
      | un => cases q
      | sh _ => cases q
      | ow g d' =>
        cases g with
        | true => cases q
        | false => cases q; exact ⟨rfl, e'⟩
  have lenT : ∀ i p, L i = some p → (vs.map some)[i]? = some (some (.ref p)) := fun i p q => (E0.lnt i p q).1
  refine ⟨E.sub, by unfold cut; simp [len]; omega, fun i d q => ?_, fun i f d q => ?_, fun i j f g d e p hij q1 q2 q3 => ?_, E.s0, E.dom, E.kep, E.frs, fun i p q => ?_, E.lsd⟩
  · unfold cut at q
    rw [List.getElem?_map] at q
    cases e : (env.take env0.length)[i]? with
    | none => rw [e] at q; cases q
    | some s =>
      rw [e] at q
      cases s with
      | un => cases q
      | sh _ => cases q
      | ow g d' => cases g <;> cases q
  · obtain ⟨rfl, q'⟩ := own i f d q
    obtain ⟨p, a, b, z, w⟩ := E.ow i false d q'
    rw [if_neg (by decide)] at w
    exact ⟨p, lenT i p w, b, z, by rw [if_neg (by decide)]; exact w⟩
  · obtain ⟨rfl, r1⟩ := own i f d q1
    obtain ⟨rfl, r2⟩ := own j g e q2
    obtain ⟨p1, a1, _, _, w1⟩ := E.ow i false d r1
    obtain ⟨p2, a2, _, _, w2⟩ := E.ow j false e r2
    rw [if_neg (by decide)] at w1 w2
    rw [lenT i p1 w1] at q3; cases q3
    rw [lenT j p2 w2]
    intro z; cases z
    exact E.dis i j false false d e _ hij r1 r2 a1 a2
  · obtain ⟨a, d, b⟩ := E.lnt i p q
    refine ⟨lenT i p q, d, ?_⟩
    unfold cut
    rw [List.getElem?_map, List.getElem?_take, if_pos, b]
    · rfl
    · obtain ⟨_, d0, b0⟩ := E0.lnt i p q
      exact (List.getElem?_eq_some_iff.mp b0).1
end
section
variable {P : Program} {w : World} {K : PySem.W.Frag} {mg : Str → Option Value} {base : Heap} {k : Nat} {f : Addr} {name qual : Str} {params : Arguments} {body : List Stmt} {scope : Scope} {dvs : List V} {kws : List (Str × V)} {fd : FuncData} {N ps : List Str}
theorem spF_len {n m : Nat} {fb : FS} (vs : List V) (H : Hp) (Q : VK) (E : XK) (h : spF K (mkFn n m fb) vs H Q E) : vs.length = m := by
  obtain ⟨L, S, env, d, env', E1, q, _⟩ := h
  unfold mkFn at q
  split at q
  · rename_i hl
    have := E1.len
    rw [List.length_map] at this
    omega
  · cases q
theorem spO_len {n m : Nat} {fb : FS} (vs : List V) (H : Hp) (Q : VK) (E : XK) (h : spO K (mkFnO n m fb) vs H Q E) : vs.length = m := by
  obtain ⟨L, S, env, d, env', E1, q, _⟩ := h
  unfold mkFnO at q
  split at q
  · rename_i hl
    have := E1.len
    rw [List.length_map] at this
    omega
  · cases q
/-- a def of the text by its body, as a function -/
theorem def_ok {fb : FS} (F : FunD K name qual params body scope dvs kws f fd) (Sc : FnScope N ps scope)
    (walk : ∀ (cdv : Value) (A : Around) (outer : List Env) (s : Shared) (H : Hp) (E : XK) (c : Ct), Gd (A.deeper (envOfC qual scope s.heap.objs.size f cdv)) base → Room k (A.deeper (envOfC qual scope s.heap.objs.size f cdv)) →
      FSs (cxOf CX0 P w K mg base N qual scope f cdv A outer s H E).nox c body fb) :
    FnG P w K mg base CX0 (k + 1) f fd ps (spF K (mkFn N.length ps.length fb)) := by
  refine fnG F Sc (fun vs H Q E h => spF_len vs H Q E h) fun cdv A outer s H vs Q E gu room h => ?_
  obtain ⟨L, S, env, d, env', E1, q, kk⟩ := h
  refine ⟨_, PSs.nox (walk cdv A outer s H E ⟨L, S, H⟩ gu room), ?_⟩
  unfold mkFn at q
  split at q
  · rename_i hl
    rw [← hl] at q
    split at q
    · rename_i d' e q2
      obtain ⟨hz, rfl, rfl⟩ := endF_some q
      exact ⟨S, _, _, E1.start, q2, fun S' H' σ' v E' s' r' => kk S' H' v (ER.finish E1 E' hz) s' r'⟩
    · rename_i e q2
      obtain ⟨hz, rfl, rfl⟩ := endF_some q
      exact ⟨S, _, _, E1.start, q2, fun S' H' σ' E' s' => kk S' H' .non (ER.finish E1 E' hz) s' .non⟩
    · cases q
  · cases q
theorem def_okO {fb : FS} (F : FunD K name qual params body scope dvs kws f fd) (Sc : FnScope N ps scope)
    (walk : ∀ (cdv : Value) (A : Around) (outer : List Env) (s : Shared) (H : Hp) (E : XK) (c : Ct), Gd (A.deeper (envOfC qual scope s.heap.objs.size f cdv)) base → Room k (A.deeper (envOfC qual scope s.heap.objs.size f cdv)) →
      FSs (cxOf CX0 P w K mg base N qual scope f cdv A outer s H E).nox c body fb) :
    FnG P w K mg base CX0 (k + 1) f fd ps (spO K (mkFnO N.length ps.length fb)) := by
  refine fnG F Sc (fun vs H Q E h => spO_len vs H Q E h) fun cdv A outer s H vs Q E gu room h => ?_
  obtain ⟨L, S, env, d, env', E1, q, kk⟩ := h
  refine ⟨_, PSs.nox (walk cdv A outer s H E ⟨L, S, H⟩ gu room), ?_⟩
  unfold mkFnO at q
  split at q
  · rename_i hl
    rw [← hl] at q
    split at q
    · rename_i d' e q2
      obtain ⟨hz, rfl, rfl⟩ := endF_some q
      exact ⟨S, _, _, E1.start, q2, fun S' H' σ' p E' s' o' a' b' => kk S' H' p (ER.finish E1 E' hz) s' o' a' b'⟩
    · cases q
  · cases q
end

/-! ## calls of such defs -/
def mCall (φ : Fn) (fa : M (List D)) : M D := fun e => match fa e with
  | some (ds, e1) => (match φ (ds.map .sh) with
    | some (r, _) => some (r, e1)
    | none => none)
  | none => none
/-- the object of slot j is lent, as the first argument -/
def mCallO (φ : Fn) (j : Nat) (fa : M (List D)) : M D := fun e => match e[j]? with
  | some (.ow _ _) => (match fa e with
    | some (ds, e1) => (match e1[j]? with
      | some (.ow f d) => (match φ (.ow false d :: ds.map .sh) with
        | some (r, .ow false d' :: _) => some (r, e1.set j (.ow f d'))
        | _ => none)
      | _ => none)
    | none => none)
  | _ => none
section
variable {K : PySem.W.Frag} {c : Ct} {S H S' H' : Hp} {σ : L2.St} {env : En}
theorem relDs_get {ds : List D} {vs : List V} {i : Nat} {d : D} (r : RelDs K S ds vs) (q : (ds.map Sl.sh)[i]? = some (.sh d)) : ∃ v, (vs.map some)[i]? = some (some v) ∧ RelD K S d v := by
  rw [List.getElem?_map] at q
  cases e : ds[i]? with
  | none => rw [e] at q; cases q
  | some d' =>
    rw [e] at q; cases q
    obtain ⟨v, a, b⟩ := r.get e
    exact ⟨v, by rw [List.getElem?_map, a]; rfl, b⟩
theorem map_sh {ds : List D} {i : Nat} {f : Bool} {d : D} (q : (ds.map Sl.sh)[i]? = some (.ow f d)) : False := by
  rw [List.getElem?_map] at q
  cases e : ds[i]? with
  | none => rw [e] at q; cases q
  | some d' => rw [e] at q; cases q
/-- the callee's start: all arguments shared -/
theorem ER.args {ds : List D} {vs : List V} (hs : Same S H) (r : RelDs K S ds vs) : ER K (fun _ => none) S H S H (vs.map some) (ds.map .sh) :=
  ⟨hs, by rw [List.length_map, List.length_map, r.length], fun i d q => relDs_get r q, fun i f d q => (map_sh q).elim, fun i j f g d e p _ q _ _ => (map_sh q).elim, Same.refl _, fun _ z => z, fun _ _ z _ => z, fun _ z => .inl z, fun _ _ z => (by cases z), fun _ _ z => (by cases z)⟩
def lent0 (p : Addr) : Nat → Option Addr := fun i => if i = 0 then some p else none
/-- .. the first one lent -/
theorem ER.args0 {ds : List D} {vs : List V} {d : D} {p : Addr} (hs : Same S H) (r : RelDs K S ds vs) (o : OwnAt K S H d p) (hp : S p = none) : ER K (lent0 p) S H S H ((V.ref p :: vs).map some) (.ow false d :: ds.map .sh) := by
  have z : ∀ (i : Nat) (s : Sl), (Sl.ow false d :: ds.map Sl.sh)[i]? = some s → (i = 0 ∧ s = .ow false d) ∨ ∃ j, i = j + 1 ∧ (ds.map Sl.sh)[j]? = some s := fun i s q => by
    cases i with
    | zero => cases q; exact .inl ⟨rfl, rfl⟩
    | succ j => exact .inr ⟨j, rfl, by simpa using q⟩
  refine ⟨hs, by simp [r.length], fun i e q => ?_, fun i f e q => ?_, fun i j f g e e' p' hij q1 q2 _ => ?_, Same.refl _, fun _ z => z, fun _ _ z _ => z, fun _ z => .inl z, fun i p' q => ?_, fun i p' q => ?_⟩
  · rcases z i _ q with ⟨_, e1⟩ | ⟨j, rfl, q'⟩
    · cases e1
    · obtain ⟨v, a, b⟩ := relDs_get r q'
      exact ⟨v, by simpa using a, b⟩
  · rcases z i _ q with ⟨rfl, e1⟩ | ⟨j, rfl, q'⟩
    · cases e1
      exact ⟨p, rfl, o, hp, by rw [if_neg (by decide)]; rfl⟩
    · exact (map_sh q').elim
  · rcases z i _ q1 with ⟨rfl, _⟩ | ⟨_, _, q'⟩
    · rcases z j _ q2 with ⟨rfl, _⟩ | ⟨_, _, q'⟩
      · exact absurd rfl hij
      · exact (map_sh q').elim
    · exact (map_sh q').elim
  · unfold lent0 at q
    split at q
    · rename_i h0
      subst h0; cases q
      exact ⟨rfl, d, rfl⟩
    · cases q
  · unfold lent0 at q
    split at q
    · cases q; exact o.there
    · cases q
end
section
variable {X : Cx} {c : Ct} {k : Nat} {f : Addr} {fd : FuncData} {ps : List Str} {φ : Fn} {x : Str} {p pos : Pos} {e : Expr} {es : List Expr} {fa : M (List D)} {j : Nat}
theorem t_call (σ : L2.St) (H : Hp) (Q : VK) (h : tM X.K c (mCall φ fa) σ H Q) : tCall (spF X.K φ) [] E0 (tMs X.K c fa) σ H Q := by
  obtain ⟨S, env, d, env', E, e1, kk⟩ := h
  unfold mCall at e1
  split at e1
  · rename_i ds e2 q
    split at e1
    · rename_i r e3 q2
      cases e1
      refine ⟨S, env, ds, _, E, q, fun S1 H1 vs E1 s1 r1 => ?_⟩
      show spF X.K φ (vs ++ []) H1 Q E0
      rw [List.append_nil]
      refine ⟨_, S1, _, _, _, ER.args E1.sub r1, q2, fun S2 H2 v E2 s2 r2 => ?_⟩
      exact kk S2 H2 v (E1.grow E2.s0 E2.sub E2.dom (fun b o z => E2.kep b o z fun _ z => nomatch z) E2.frs) (s1.trans s2) r2
    · cases e1
  · cases e1
theorem t_callO (σ : L2.St) (H : Hp) (Q : VK) (h : tM X.K c (mCallO φ j fa) σ H Q) : tCall (spF X.K φ) [] E0 (tCons (tVar j) (tMs X.K c fa)) σ H Q := by
  obtain ⟨S, env, d, env', E, e1, kk⟩ := h
  unfold mCallO at e1
  split at e1
  · rename_i f0 d0 q0
    split at e1
    · rename_i ds e2 q
      split at e1
      · rename_i f1 d1 q1
        split at e1
        · rename_i r d' rest q2
          cases e1
          obtain ⟨p0, a0, _⟩ := E.ow j f0 d0 q0
          refine ⟨_, a0, S, env, ds, _, E, q, fun S1 H1 vs E1 s1 r1 => ?_⟩
          obtain ⟨p1, a1, o1, z1, w1⟩ := E1.ow j f1 d1 q1
          rw [a0] at a1; cases a1
          rw [List.append_nil]
          refine ⟨_, S1, _, _, _, ER.args0 E1.sub r1 o1 z1, q2, fun S2 H2 v E2 s2 r2 => ?_⟩
          obtain ⟨p2, a2, o2, _, _⟩ := E2.ow 0 false d' rfl
          cases a2
          refine kk S2 H2 v (E1.growL q1 a0 E2.s0 E2.sub E2.dom (fun b o z hb => E2.kep b o z fun i hi => ?_) E2.frs o2) (s1.trans s2) r2
          unfold lent0 at hi
          split at hi
          · cases hi; exact hb rfl
          · cases hi
        · cases e1
      · cases e1
    · cases e1
  · cases e1
/-- f(e, ..), all shared -/
theorem f_call (G : FnG X.prog X.w X.K X.mg X.base CX0 k f fd ps (spF X.K φ)) (gu : Gd X.A X.base) (room : Room k X.A) (gl : Gl X x) (hm : X.mg x = some (.ref f)) (kp : PySem.W.keepIn X.K (.ref f) = true) (hb : Binds X.K fd ps []) (ha : FA X c (e :: es) fa)
    (n1 : (x == ("__debug__" : Str)) = false := by decide) (n2 : starEach (e :: es) X.env = (false, eval e X.env) :: starEach es X.env := by rfl) (n3 : (backTo pos (starEach es X.env)).any (·.1) = false := by rfl) : FE X c (.Call (.Name x p) (e :: es) [] pos) (mCall φ fa) :=
  (callG G gu room gl hm kp hb .nil pass0 ha n1 n2 n3).weak t_call
theorem f_call0 (G : FnG X.prog X.w X.K X.mg X.base CX0 k f fd ps (spF X.K φ)) (gu : Gd X.A X.base) (room : Room k X.A) (gl : Gl X x) (hm : X.mg x = some (.ref f)) (kp : PySem.W.keepIn X.K (.ref f) = true) (hb : Binds X.K fd ps [])
    (n1 : (x == ("__debug__" : Str)) = false := by decide) : FE X c (.Call (.Name x p) [] [] pos) (mCall φ mNil) :=
  (callG0 G gu room gl hm kp hb .nil pass0 n1).weak fun σ H Q h => by
    obtain ⟨S, env, ds, env', E, q, kk⟩ := t_call σ H Q h
    cases q
    exact kk S H [] E (Same.refl _) .nil
/-- f(own, e, ..) -/
theorem f_callO {x0 : Str} {p0 : Pos} (G : FnG X.prog X.w X.K X.mg X.base CX0 k f fd ps (spF X.K φ)) (gu : Gd X.A X.base) (room : Room k X.A) (gl : Gl X x) (hm : X.mg x = some (.ref f)) (kp : PySem.W.keepIn X.K (.ref f) = true) (hb : Binds X.K fd ps []) (hv : PE X (.Name x0 p0) (tVar j)) (ha : FA X c es fa)
    (n1 : (x == ("__debug__" : Str)) = false := by decide) (n2 : starEach (.Name x0 p0 :: es) X.env = (false, eval (.Name x0 p0) X.env) :: starEach es X.env := by rfl) (n3 : (backTo pos (starEach es X.env)).any (·.1) = false := by rfl) : FE X c (.Call (.Name x p) (.Name x0 p0 :: es) [] pos) (mCallO φ j fa) :=
  (callG G gu room gl hm kp hb .nil pass0 (pa_cons hv ha n2) n1 n2 n3).weak t_callO
/-- .. whose result is a new object -/
theorem fo_call (G : FnG X.prog X.w X.K X.mg X.base CX0 k f fd ps (spO X.K φ)) (gu : Gd X.A X.base) (room : Room k X.A) (gl : Gl X x) (hm : X.mg x = some (.ref f)) (kp : PySem.W.keepIn X.K (.ref f) = true) (hb : Binds X.K fd ps []) (ha : FA X c (e :: es) fa)
    (n1 : (x == ("__debug__" : Str)) = false := by decide) (n2 : starEach (e :: es) X.env = (false, eval e X.env) :: starEach es X.env := by rfl) (n3 : (backTo pos (starEach es X.env)).any (·.1) = false := by rfl) : FO X c (.Call (.Name x p) (e :: es) [] pos) (mCall φ fa) :=
  (callG G gu room gl hm kp hb .nil pass0 ha n1 n2 n3).weak fun σ H Q ⟨S, env, d, env', E, e1, kk⟩ => by
    unfold mCall at e1
    split at e1
    · rename_i ds e2 q
      split at e1
      · rename_i r e3 q2
        cases e1
        refine ⟨S, env, ds, _, E, q, fun S1 H1 vs E1 s1 r1 => ?_⟩
        show spO X.K φ (vs ++ []) H1 Q E0
        rw [List.append_nil]
        refine ⟨_, S1, _, _, _, ER.args E1.sub r1, q2, fun S2 H2 v E2 s2 o2 z2 n2 => ?_⟩
        refine kk S2 H2 v (E1.grow E2.s0 E2.sub E2.dom (fun b o z => E2.kep b o z fun _ z => nomatch z) E2.frs) (s1.trans s2) o2 z2 ?_ fun j f e q z => ?_
        · cases ez : c.H0 v with
          | none => rfl
          | some o => exact absurd n2 (E1.dom v (by rw [ez]; exact fun z => nomatch z))
        · obtain ⟨p1, a1, o1, _⟩ := E1.ow j f e q
          rw [a1] at z; cases z
          exact o1.there n2
      · cases e1
    · cases e1
end

/-! ## objects of one's own -/
/-- a new object is given to slot i -/
def sOwn (i : Nat) (f : M D) : FS := fun e => match f e with
  | some (d, e1) => (match e1[i]? with
    | some s => if lentS s = true then none else some (.nx (e1.set i (.ow true d)))
    | none => none)
  | none => none
def sRetO (f : M D) : FS := fun e => match f e with
  | some (d, e1) => some (.ro d e1)
  | none => none
/-- return of an own object -/
def sRetV (i : Nat) : FS := fun e => match e[i]? with
  | some (.ow true d) => some (.ro d (e.set i .un))
  | _ => none
section
variable {X : Cx} {c : Ct} {e : Expr} {es : List Expr} {pos pos' : Pos}
theorem fo_lst {f : M (List D)} (h : FA X c es f) : FO X c (.List es pos) (mMk gLstD f) := (pe_lst h).weak fun σ H Q ⟨S, env, d, env', E, e1, kk⟩ => by
  unfold mMk at e1
  split at e1
  · cases e1
  · rename_i da ea qa
    split at e1
    · cases e1
    · rename_i z qz
      cases e1
      unfold gLstD at qz
      split at qz
      · rename_i hz
        cases qz
        refine ⟨S, env, da, _, E, qa, fun S1 H1 vs E1 s1 r1 => ⟨by rw [← r1.length]; exact of_decide_eq_true hz, fun p hp => ?_⟩⟩
        refine kk S1 _ p (E1.lay _ hp) s1 ⟨vs, upd_same, r1⟩ (E1.sub.free hp) ?_ fun j f e q z => ?_
        · cases ez : c.H0 p with
          | none => rfl
          | some o => exact absurd hp (E1.dom p (by rw [ez]; exact fun z => nomatch z))
        · obtain ⟨p1, a1, o1, _⟩ := E1.ow j f e q
          rw [a1] at z; cases z
          exact o1.there hp
      · cases qz
theorem fs_own {i : Nat} {x : Str} {f : M D} (h : FO X c e f) (hN : X.N.Nodup) (hi : X.N[i]? = some x) (hx : Loc X.env.scope x) (hs : swapsWith e (some (.Name x pos')) pos.line X.env = pure false := by rfl) (hf : X.fn x = true ∨ X.env.scope.names.lookup x = some .local := by first | exact .inl rfl | exact .inr rfl | assumption) :
    FSt X c (.Assign [.Name x pos'] e pos) (sOwn i f) := (ps_set hN hi hx h hs hf).weak fun D' σ H ⟨S, env, o, E, e1, kk⟩ => by
  unfold sOwn at e1
  split at e1
  · rename_i d e2 q
    split at e1
    · rename_i s qs
      split at e1
      · cases e1
      · rename_i hl
        cases e1
        refine ⟨S, env, d, e2, E, q, fun S1 H1 p E1 s1 o1 z1 n1 fr => ?_⟩
        exact kk S1 H1 _ (E1.putOwn (fun e z => by rw [qs] at z; exact lentS_no hl (Option.some.inj z)) o1 z1 n1 fun j f e _ q => fr j f e q) s1
    · cases e1
  · cases e1
theorem fs_retO {f : M D} (h : FO X c e f) : FSt X c (.Return (some e) pos) (sRetO f) := (ps_ret h).weak fun D' σ H ⟨S, env, o, E, e1, kk⟩ => by
  unfold sRetO at e1
  split at e1
  · rename_i d e2 q
    cases e1
    exact ⟨S, env, d, e2, E, q, fun S1 H1 p E1 s1 o1 z1 n1 _ => kk S1 H1 σ p E1 s1 o1 z1 n1⟩
  · cases e1
/-- a slot is forgotten -/
theorem ER.drop {K : PySem.W.Frag} {L : Nat → Option Addr} {S0 H0 S H : Hp} {σ : L2.St} {env : En} {i : Nat} {d : D} (E : ER K L S0 H0 S H σ env) (h : env[i]? = some (.ow true d)) : ER K L S0 H0 S H σ (env.set i .un) := by
  have hl : i < env.length := (List.getElem?_eq_some_iff.mp h).1
  have old : ∀ (j : Nat) (s : Sl), (env.set i Sl.un)[j]? = some s → s = .un ∨ (j ≠ i ∧ env[j]? = some s) := fun j s q => by
    by_cases hj : j = i
    · subst hj; rw [List.getElem?_set_self hl] at q; cases q; exact .inl rfl
    · rw [List.getElem?_set_ne (Ne.symm hj)] at q; exact .inr ⟨hj, q⟩
  refine ⟨E.sub, by simp [E.len], fun j e q => ?_, fun j f e q => ?_, fun j k f g e e' p hjk q1 q2 q3 => ?_, E.s0, E.dom, E.kep, E.frs, fun j p q => ?_, E.lsd⟩
  · rcases old j _ q with q | ⟨_, q⟩
    · cases q
    · exact E.sh j e q
  · rcases old j _ q with q | ⟨_, q⟩
    · cases q
    · exact E.ow j f e q
  · rcases old j _ q1 with q1 | ⟨_, q1⟩
    · cases q1
    · rcases old k _ q2 with q2 | ⟨_, q2⟩
      · cases q2
      · exact E.dis j k f g e e' p hjk q1 q2 q3
  · obtain ⟨a, e, b⟩ := E.lnt j p q
    have hj : j ≠ i := fun z => by subst z; rw [h] at b; cases b
    exact ⟨a, e, by rw [List.getElem?_set_ne (Ne.symm hj)]; exact b⟩
theorem fs_retV {i : Nat} {x : Str} {p : Pos} (h : PE X (.Name x p) (tVar i)) : FSt X c (.Return (some (.Name x p)) pos) (sRetV i) := (ps_ret h).weak fun D' σ H ⟨S, env, o, E, e1, kk⟩ => by
  unfold sRetV at e1
  split at e1
  · rename_i d q
    cases e1
    obtain ⟨p, a, ow, z, w⟩ := E.ow i true d q
    rw [if_pos rfl] at w
    exact ⟨_, a, kk S H σ p (E.drop q) (Same.refl _) ow z w⟩
  · cases e1
end
end FL

set_option Elab.async false
set_option linter.all false
set_option maxRecDepth 100000
set_option maxHeartbeats 2000000
namespace FL
open PySem PySem.Spec PyProof.Rows L2

/-! ## data as the library has it -/
mutual
def toP : D → Option PyData
  | .non => some .none
  | .bl b => some (.bool b)
  | .int i => some (.int i)
  | .str x => some (.str x)
  | .lst xs => match toPs xs with
    | some ps => some (.list ps)
    | none => none
  | .tup xs => match toPs xs with
    | some ps => some (.tuple ps)
    | none => none
  | .dic [] => some (.dict [])
  | .dic (_ :: _) => none
  | .obj _ _ => none
  | .scr _ => none
  | .kls _ => none
def toPs : List D → Option (List PyData)
  | [] => some []
  | x :: xs => match toP x with
    | some p => (match toPs xs with
      | some ps => some (p :: ps)
      | none => none)
    | none => none
end
section
variable {X : Cx} {pins : List (Addr × Obj)} {σ : L2.St} {H : Hp} {s : Shared}
mutual
theorem reads_of (hb : SysB X.base) (I : Inv X pins σ H s) : ∀ (d : D) (p : PyData) (v : V) (u : Value), toP d = some p → RelD X.K H d v → RelV v u → ∃ as, Reads s.heap u p as ∧ sysModules ∉ as
  | .non, p, _, _, e, .non, r => by
    have e' : some PyData.none = some p := e
    cases e'; cases r
    exact ⟨_, Reads.none, by simp⟩
  | .bl b, p, _, _, e, .bl _, r => by
    have e' : some (PyData.bool b) = some p := e
    cases e'; cases r
    exact ⟨_, Reads.bool b, by simp⟩
  | .int i, p, _, _, e, .int _, r => by
    have e' : some (PyData.int i) = some p := e
    cases e'; obtain ⟨t, rfl⟩ := r
    exact ⟨_, Reads.int i t, by simp⟩
  | .str x, p, _, _, e, .str _, r => by
    have e' : some (PyData.str x) = some p := e
    cases e'; obtain ⟨t, rfl⟩ := r
    exact ⟨_, Reads.str x t, by simp⟩
  | .lst xs, p, _, _, e, .lst h rs, r => by
    unfold toP at e
    split at e
    · rename_i ps q
      cases e; cases r
      obtain ⟨its, rv, ⟨o, n, ho, hc, _, hd⟩, _⟩ := I.list (.of h)
      obtain ⟨as, hr, hn⟩ := reads_all hb I xs ps _ its q rs rv
      exact ⟨_, Reads.list ho hc hd hr, fun z => by
        rcases List.mem_cons.mp z with z | z
        · obtain ⟨o2, es, ep, e2, d2⟩ := hb
          have e3 := I.bk _ _ e2
          rw [z, ho] at e3
          cases e3
          rw [hd] at d2
          cases d2
        · exact hn z⟩
    · cases e
  | .tup xs, p, _, _, e, .tup h rs, r => by
    unfold toP at e
    split at e
    · rename_i ps q
      cases e; cases r
      obtain ⟨its, rv, ⟨o, ho, hc, n, hd⟩, _⟩ := I.tuple h.sq
      obtain ⟨as, hr, hn⟩ := reads_all hb I xs ps _ its q rs rv
      exact ⟨_, Reads.tuple ho hc hd hr, hn⟩
    · cases e
  | .dic [], p, _, _, e, .dic h rs, r => by
    unfold toP at e
    cases e; cases r
    cases rs
    obtain ⟨_, hsys, vs, kv, o, es, ep, h1, h2, h3, h4, h5, h6⟩ := dk_of I.hok h
    cases kv
    have he : es.toList = [] := by
      generalize es.toList = l at h5
      cases h5; rfl
    refine ⟨_, Reads.dict (kvs := []) (as := []) (bs := []) h1 h2.1 h3 (by rw [he]; exact ReadsAll.nil) (by rw [he]; exact ReadsAll.nil), fun z => ?_⟩
    simp at z
    rw [z] at hsys
    simp at hsys
  | .dic (_ :: _), p, _, _, e, _, _ => by
    unfold toP at e
    cases e
  | .obj _ _, p, _, _, e, _, _ => by
    unfold toP at e
    cases e
  | .scr _, p, _, _, e, _, _ => by
    unfold toP at e
    cases e
  | .kls _, p, _, _, e, _, _ => by
    unfold toP at e
    cases e
theorem reads_all (hb : SysB X.base) (I : Inv X pins σ H s) : ∀ (ds : List D) (ps : List PyData) (vs : List V) (us : List Value), toPs ds = some ps → RelDs X.K H ds vs → Vals vs us → ∃ as, ReadsAll s.heap us ps as ∧ sysModules ∉ as
  | [], ps, _, _, e, .nil, r => by
    unfold toPs at e
    cases e; cases r
    exact ⟨_, ReadsAll.nil, by simp⟩
  | d :: ds, ps, _, _, e, .cons h hs, r => by
    unfold toPs at e
    split at e
    · rename_i p q
      split at e
      · rename_i ps' q2
        cases e
        cases r with
        | cons r1 r2 =>
          obtain ⟨as, q3, n3⟩ := reads_of hb I d p _ _ q h r1
          obtain ⟨bs, q4, n4⟩ := reads_all hb I ds ps' _ _ q2 hs r2
          refine ⟨_, ReadsAll.cons q3 q4, fun m => ?_⟩
          rcases List.mem_append.mp m with m | m
          · exact n3 m
          · exact n4 m
      · cases e
    · cases e
end
end

/-! ## repr -/
def shownD (p : PyData) : D := .str p.shown
/-- what may be shown: small enough, and a dict in no list -/
noncomputable def reprOk (d : D) (p : PyData) : Bool := chk (p.showable = true ∧ p.depth ≤ 60 ∧ p.shown.length ≤ sizeLine)
noncomputable def gRepr : D → Option D := fun d => match toP d with
  | some p => bif reprOk d p then some (shownD p) else none
  | none => none
/-- a built-in of one argument, the argument looked at -/
def OpH (X : Cx) (id : String) (g : D → Option D) : Prop := ∀ (pins : List (Addr × Obj)) (s : Shared) (σ : L2.St) (S H : Hp) (d z : D) (x : V) (u : Value) (Q : VK), g d = some z → Inv X pins σ H s → Vw X.K S H d x → Same S H → RelV x u →
  (∀ v, RelD X.K S z v → Q v H) → (∀ p o, H p = none → RelD X.K (upd S p o) z (.ref p) → Q (.ref p) (upd H p o)) → wpAny (model X.prog X.w) X.A (call (.builtin id) [u]) (EP X pins σ Q) X.xe s
def rOpH (X : Cx) (id : String) : List V → Hp → VK → Prop := fun xs H Q => ∀ (pins : List (Addr × Obj)) (s : Shared) (σ : L2.St) (us : List Value), Inv X pins σ H s → Vals xs us → wpAny (model X.prog X.w) X.A (call (.builtin id) us) (EP X pins σ Q) X.xe s
theorem callR_self {X : Cx} (id : String) : CallR X (.builtin id) (rOpH X id) := fun pins s σ H xs us Q I r h => h pins s σ us I r
section
variable {X : Cx} {c : Ct} {e : Expr} {x : Str} {p pos : Pos} {id : String} {g : D → Option D} {fa : M Hd}
theorem t_opH (ho : OpH X id g) (σ : L2.St) (H : Hp) (Q : VK) (h : tM X.K c (m1H g fa) σ H Q) : tCB (rOpH X id) (tCons (tH X.K c fa) tNil) σ H Q := by
  obtain ⟨S, env, d, env', E, e1, k⟩ := h
  unfold m1H at e1
  split at e1
  · cases e1
  · rename_i da ea qa
    split at e1
    · cases e1
    · rename_i a' q1
      split at e1
      · cases e1
      · rename_i z qz
        cases e1
        refine ⟨S, env, da, _, E, qa, fun S1 H1 v1 E1 s1 r1 => ?_⟩
        intro pins s σ' us I rv
        cases rv with
        | cons ru rn =>
          cases rn
          exact ho pins s σ' S1 H1 a' _ v1 _ Q qz I (view E1 r1 q1) E1.sub ru (fun v r => k S1 H1 v E1 s1 r) fun p o hp r => k _ _ _ (E1.laid o hp) (s1.trans (same_upd (E1.sub.free hp))) r
/-- f(e), f a built-in that looks at its argument -/
theorem f_look (ho : OpH X id g) (ha : FH X c e fa) (hg : Gl X x) (hm : X.mg x = none) (hv : bootBuiltins x = some (.builtin id)) (hn : x ≠ "__name__" := by decide) (hdb : (x == ("__debug__" : Str)) = false := by decide)
    (he : starEach [e] X.env = (false, eval e X.env) :: starEach [] X.env := by rfl) (hpl : (backTo pos (starEach ([] : List Expr) X.env)).any (·.1) = false := by rfl) : FE X c (.Call (.Name x p) [e] [] pos) (m1H g fa) :=
  (pe_callB (callR_self id) hg hm hv (pa_cons ha pa_nil he) hn hdb he hpl).weak (t_opH ho)
theorem oh_repr {k : Nat} (gu : Gd X.A X.base) (room : Room k X.A) : OpH X "repr" gRepr := by
  intro pins s σ S H d z x u Q q I w hs ru kv ka
  unfold gRepr at q
  split at q
  · rename_i pd hp
    obtain ⟨ok, rfl⟩ := bif_some q
    · obtain ⟨o1, o2, o3⟩ := chk_of ok
      have rel := w.rel hs
      obtain ⟨as, rd, hn⟩ := reads_of gu.sys I d pd x u hp rel ru
      have fin : ∀ h' (t' : Nat) (tk : Tok), (∀ b o, s.heap.get? b = some o → h'.get? b = some o) → EP X pins σ Q (.str pd.shown tk) { s with heap := h', toks := t' } := fun h' t' tk kk => ⟨.str pd.shown, H, I.kept kk, ⟨tk, rfl⟩, kv _ (.str _)⟩
      have rm := room.units
      cases d with
      | non => cases rel; cases ru; cases hp; exact P.repr_of_none (fin s.heap _ _ fun _ _ z => z)
      | bl b => cases rel; cases ru; cases hp; exact P.repr_of_bool (fin s.heap _ _ fun _ _ z => z)
      | int i => cases rel; obtain ⟨t, rfl⟩ := ru; cases hp; exact P.repr_of_int (by simpa [PyData.showable] using o1) (fin s.heap _ _ fun _ _ z => z)
      | str y => cases rel; obtain ⟨t, rfl⟩ := ru; cases hp; exact P.repr_of_str (fin s.heap _ _ fun _ _ z => z) o3
      | lst xs =>
        cases rel; cases ru
        refine repr_of_reads' rd o1 (fun _ => hn) gu.gu (by omega) (fun _ _ z => z) (fun h' u tk kk => fin h' _ _ kk) o3
      | tup xs =>
        cases rel; cases ru
        refine repr_of_reads' rd o1 (fun _ => hn) gu.gu (by omega) (fun _ _ z => z) (fun h' u tk kk => fin h' _ _ kk) o3
      | dic xs =>
        cases rel; cases ru
        refine repr_of_reads' rd o1 (fun _ => hn) gu.gu (by omega) (fun _ _ z => z) (fun h' u tk kk => fin h' _ _ kk) o3
      | obj n xs => cases hp
      | scr ns => cases hp
      | kls n => cases hp
  · cases q
theorem f_repr {k : Nat} (gu : Gd X.A X.base) (room : Room k X.A) (ha : FH X c e fa) (hg : Gl X "repr") (hm : X.mg "repr" = none)
    (he : starEach [e] X.env = (false, eval e X.env) :: starEach [] X.env := by rfl) (hpl : (backTo pos (starEach ([] : List Expr) X.env)).any (·.1) = false := by rfl) : FE X c (.Call (.Name "repr" p) [e] [] pos) (m1H gRepr fa) :=
  f_look (oh_repr gu room) ha hg hm (by decide +kernel) (by decide) (by decide) he hpl
/-! ## len -/
def gLen : D → Option D
  | .lst xs => some (.int xs.length)
  | .tup xs => some (.int xs.length)
  | .str x => if x.length ≤ sizeLine then some (.int x.length) else none
  | .scr ns => some (.int ns.length)
  | _ => none
theorem oh_len : OpH X "len" gLen := by
  intro pins s σ S H d z x u Q q I w hs ru kv ka
  have go : ∀ n : Nat, LenV X.K x H n → z = .int n → wpAny (model X.prog X.w) X.A (call (.builtin "len") [u]) (EP X pins σ Q) X.xe s := fun n hn e => by
    subst e
    exact call_len pins s σ H [x] [u] Q I (.cons ru .nil) ⟨x, n, rfl, hn, kv _ (.int _)⟩
  cases d with
  | lst xs =>
    cases q
    obtain ⟨a, vs, rfl, h, r⟩ := w.lst hs
    exact go xs.length (.inl ⟨vs, .of h, r.length⟩) rfl
  | tup xs =>
    cases q
    obtain ⟨a, vs, rfl, h, r⟩ := w.tup hs
    exact go xs.length (.inr ⟨vs, h.sq, r.length⟩) rfl
  | str y =>
    have q' : (if y.length ≤ sizeLine then some (D.int y.length) else none) = some z := q
    split at q'
    · rename_i hz
      cases q'
      rcases w with w | ⟨p, _, w⟩
      · cases w
        exact go y.length ⟨hz, rfl⟩ rfl
      · exact w.elim
    · cases q'
  | non => cases q
  | bl b => cases q
  | int i => cases q
  | dic xs => cases q
  | obj n xs => cases q
  | kls n => cases q
  | scr ns =>
    cases q
    rcases w with w | ⟨p, _, w⟩
    · cases w with
      | scr h => exact go ns.length (.inl ⟨_, hs.seq h, by rw [List.length_map]⟩) rfl
    · exact w.elim
theorem f_len (ha : FH X c e fa) (hg : Gl X "len") (hm : X.mg "len" = none)
    (he : starEach [e] X.env = (false, eval e X.env) :: starEach [] X.env := by rfl) (hpl : (backTo pos (starEach ([] : List Expr) X.env)).any (·.1) = false := by rfl) : FE X c (.Call (.Name "len" p) [e] [] pos) (m1H gLen fa) :=
  f_look oh_len ha hg hm (by decide +kernel) (by decide) (by decide) he hpl
end

/-! ## == and != of data -/
noncomputable def eqOk (d e : PyData) : Bool := chk (SeqAt.shaped d = true ∧ SeqAt.shaped e = true)
noncomputable def gEqD : D → D → Option D := fun d e => match toP d, toP e with
  | some p, some q => bif eqOk p q then some (.bl (PyData.eqv p q)) else none
  | _, _ => none
noncomputable def gNeD : D → D → Option D := fun d e => match toP d, toP e with
  | some p, some q => bif eqOk p q then some (.bl (!PyData.eqv p q)) else none
  | _, _ => none
mutual
theorem dp_of {K : PySem.W.Frag} {H : Hp} : ∀ (d : D) (p : PyData) (v : V), toP d = some p → p.canLay0 = true → RelD K H d v → Dp K H v p
  | .non, p, _, e, _, .non => by have e' : some PyData.none = some p := e; cases e'; exact .non
  | .bl b, p, _, e, _, .bl _ => by have e' : some (PyData.bool b) = some p := e; cases e'; exact .bl b
  | .int i, p, _, e, _, .int _ => by have e' : some (PyData.int i) = some p := e; cases e'; exact .int i
  | .str x, p, _, e, _, .str _ => by have e' : some (PyData.str x) = some p := e; cases e'; exact .str x
  | .lst xs, p, _, e, l, .lst h rs => by
    unfold toP at e
    split at e
    · rename_i ps q
      cases e
      exact .lst (.of h) (dps_of xs ps _ q (by simpa [PyData.canLay0] using l) rs)
    · cases e
  | .tup xs, p, _, e, l, .tup h rs => by
    unfold toP at e
    split at e
    · rename_i ps q
      cases e
      exact .tup h.sq (dps_of xs ps _ q (by simpa [PyData.canLay0] using l) rs)
    · cases e
  | .dic [], p, _, e, l, _ => by
    unfold toP at e
    cases e
    simp [PyData.canLay0] at l
  | .dic (_ :: _), p, _, e, _, _ => by
    unfold toP at e
    cases e
  | .obj _ _, p, _, e, _, _ => by
    unfold toP at e
    cases e
  | .scr _, p, _, e, _, _ => by
    unfold toP at e
    cases e
  | .kls _, p, _, e, _, _ => by
    unfold toP at e
    cases e
theorem dps_of {K : PySem.W.Frag} {H : Hp} : ∀ (d : List D) (p : List PyData) (v : List V), toPs d = some p → PyData.canLayAll0 p = true → RelDs K H d v → DpAll K H v p
  | [], p, _, e, _, .nil => by
    unfold toPs at e
    cases e; exact .nil
  | d :: ds, p, _, e, l, .cons h hs => by
    unfold toPs at e
    split at e
    · rename_i p1 q
      split at e
      · rename_i ps q2
        cases e
        have l' : p1.canLay0 = true ∧ PyData.canLayAll0 ps = true := by simpa [PyData.canLayAll0] using l
        exact .cons (dp_of d p1 _ q l'.1 h) (dps_of ds ps _ q2 l'.2 hs)
      · cases e
    · cases e
end
section
variable {K : PySem.W.Frag}
theorem o2_eqD : Op2 K (rEqD K) gEqD := by
  intro S H d e z x y Q q hd he hs kv ka
  unfold gEqD at q
  split at q
  · rename_i p p' q1 q2
    obtain ⟨ok, rfl⟩ := bif_some q
    · obtain ⟨s1, s2⟩ := chk_of ok
      exact ⟨p, p', dp_of d p x q1 (SeqAt.canLay_of_shaped s1) (hd.rel hs), dp_of e p' y q2 (SeqAt.canLay_of_shaped s2) (he.rel hs), s1, s2, kv _ (.bl _)⟩
  · cases q
theorem o2_neD : Op2 K (rNeD K) gNeD := by
  intro S H d e z x y Q q hd he hs kv ka
  unfold gNeD at q
  split at q
  · rename_i p p' q1 q2
    obtain ⟨ok, rfl⟩ := bif_some q
    · obtain ⟨s1, s2⟩ := chk_of ok
      exact ⟨p, p', dp_of d p x q1 (SeqAt.canLay_of_shaped s1) (hd.rel hs), dp_of e p' y q2 (SeqAt.canLay_of_shaped s2) (he.rel hs), s1, s2, kv _ (.bl _)⟩
  · cases q
end
noncomputable def gEq : D → D → Option D
  | .str x, .str y => some (.bl (decide (x = y)))
  | d, e => gEqD d e
noncomputable def gNe : D → D → Option D
  | .str x, .str y => some (.bl (!decide (x = y)))
  | d, e => gNeD d e
theorem op2_or {X : Cx} {f : Value → Value → Sem Value} {r r' : R2} (h : OpR X f r) (h' : OpR X f r') : OpR X f (fun x y H Q => r x y H Q ∨ r' x y H Q) := fun pins s σ H x y v u Q I rx ry q => q.elim (h pins s σ H x y v u Q I rx ry) (h' pins s σ H x y v u Q I rx ry)
theorem vwS {K : PySem.W.Frag} {S H : Hp} {i : Str} {x : V} (h : Vw K S H (.str i) x) : x = .str i := by
  rcases h with h | ⟨p, _, h⟩
  · cases h; rfl
  · exact h.elim
theorem o2_eq {K : PySem.W.Frag} : Op2 K (fun x y H Q => rEq x y H Q ∨ rEqD K x y H Q) gEq := by
  intro S H d e z x y Q q hd he hs kv ka
  unfold gEq at q
  split at q
  · cases q
    have e1 := vwS hd
    have e2 := vwS he
    subst e1 e2
    refine .inl ⟨rfl, ?_⟩
    have h := kv _ (.bl _)
    rename_i x' y'
    have e3 : decide (V.str x' = V.str y') = decide (x' = y') := by
      by_cases e : x' = y'
      · subst e; simp
      · rw [decide_eq_false e]; exact decide_eq_false fun z => e (V.str.inj z)
    rw [e3]; exact h
  · exact .inr (o2_eqD S H d e z x y Q q hd he hs kv ka)
theorem o2_ne {K : PySem.W.Frag} : Op2 K (fun x y H Q => rNe x y H Q ∨ rNeD K x y H Q) gNe := by
  intro S H d e z x y Q q hd he hs kv ka
  unfold gNe at q
  split at q
  · cases q
    have e1 := vwS hd
    have e2 := vwS he
    subst e1 e2
    refine .inl ⟨rfl, ?_⟩
    have h := kv _ (.bl _)
    rename_i x' y'
    have e3 : decide (V.str x' = V.str y') = decide (x' = y') := by
      by_cases e : x' = y'
      · subst e; simp
      · rw [decide_eq_false e]; exact decide_eq_false fun z => e (V.str.inj z)
    rw [e3]; exact h
  · exact .inr (o2_neD S H d e z x y Q q hd he hs kv ka)
section
variable {X : Cx} {c : Ct} {a b : Expr} {pos : Pos} {fa fb : M Hd}
theorem f_eq {k : Nat} (room : Room k X.A) (ha : FH X c a fa) (hb : FH X c b fb) : FE X c (.Compare a [.Eq] [b] pos) (m2H gEq fa fb) := f_cmp (op2_or op_eq (op_eqD room.units)) o2_eq ha hb (nobehind _ (by decide) (by decide))
theorem f_ne {k : Nat} (room : Room k X.A) (ha : FH X c a fa) (hb : FH X c b fb) : FE X c (.Compare a [.NotEq] [b] pos) (m2H gNe fa fb) := f_cmp (op2_or op_ne (op_neD room.units)) o2_ne ha hb (nobehind _ (by decide) (by decide))
theorem ft_eq {k : Nat} (room : Room k X.A) (ha : FH X c a fa) (hb : FH X c b fb) : FT X c (.Compare a [.Eq] [b] pos) (mTb (m2H gEq fa fb)) := ft_cmp (op2_or op_eq (op_eqD room.units)) o2_eq ha hb (nobehind _ (by decide) (by decide))
theorem ft_ne {k : Nat} (room : Room k X.A) (ha : FH X c a fa) (hb : FH X c b fb) : FT X c (.Compare a [.NotEq] [b] pos) (mTb (m2H gNe fa fb)) := ft_cmp (op2_or op_ne (op_neD room.units)) o2_ne ha hb (nobehind _ (by decide) (by decide))
theorem ft_lt (ha : FH X c a fa) (hb : FH X c b fb) : FT X c (.Compare a [.Lt] [b] pos) (mTb (mLt fa fb)) := ft_cmp op_lt (o2_cmp _) ha hb (nobehind _ (by decide) (by decide))
theorem ft_le (ha : FH X c a fa) (hb : FH X c b fb) : FT X c (.Compare a [.LtE] [b] pos) (mTb (mLe fa fb)) := ft_cmp op_le (o2_cmp _) ha hb (nobehind _ (by decide) (by decide))
theorem ft_gt (ha : FH X c a fa) (hb : FH X c b fb) : FT X c (.Compare a [.Gt] [b] pos) (mTb (mGt fa fb)) := ft_cmp op_gt (o2_cmp _) ha hb (nobehind _ (by decide) (by decide))
theorem ft_ge (ha : FH X c a fa) (hb : FH X c b fb) : FT X c (.Compare a [.GtE] [b] pos) (mTb (mGe fa fb)) := ft_cmp op_ge (o2_cmp _) ha hb (nobehind _ (by decide) (by decide))
end
end FL

set_option Elab.async false
set_option linter.all false
set_option maxRecDepth 100000
set_option maxHeartbeats 2000000
namespace FL
open PySem PySem.Spec PyProof.Rows L2

/-! ## isinstance against a built-in class -/
def kindN : D → String
  | .non => "NoneType"
  | .bl _ => "bool"
  | .int _ => "int"
  | .str _ => "str"
  | .lst _ => "list"
  | .tup _ => "tuple"
  | .dic _ => "dict"
  | .obj _ _ => "?"
  | .scr _ => "list"
  | .kls _ => "?"
/-- the answer, for the classes that are asked here -/
def isiB (a b : String) : Bool := a == b || (a == "bool" && b == "int")
def isObjD : D → Bool
  | .obj _ _ => true
  | .kls _ => true
  | _ => false
def gIsi (T : String) : D → Option D := fun d => if isObjD d = true then none else some (.bl (isiB (kindN d) T))
theorem tyX_of {K : PySem.W.Frag} {S H : Hp} {d : D} {v : V} (w : Vw K S H d v) (hs : Same S H) (h : isObjD d = false) : TyX K H v (.type (kindN d)) := by
  cases d with
  | non => rcases w with w | ⟨p, _, w⟩; (cases w; exact .base .non); exact w.elim
  | bl b => rcases w with w | ⟨p, _, w⟩; (cases w; exact .base (.bl b)); exact w.elim
  | int i => rcases w with w | ⟨p, _, w⟩; (cases w; exact .base (.int i)); exact w.elim
  | str x => rcases w with w | ⟨p, _, w⟩; (cases w; exact .base (.str x)); exact w.elim
  | lst xs => obtain ⟨a, vs, rfl, h, _⟩ := w.lst hs; exact .base (.lst h)
  | tup xs =>
    obtain ⟨a, vs, rfl, h, _⟩ := w.tup hs
    rcases h with h | ⟨o, its, n, k, hc, _⟩
    · exact .base (.tup h)
    · exact .kTuple k hc
  | dic xs => obtain ⟨a, vs, rfl, h, _⟩ := w.dic hs; exact .base (.dK h)
  | obj n xs => cases h
  | kls n => cases h
  | scr ns =>
    rcases w with w | ⟨p, _, w⟩
    · cases w with
      | scr h =>
        rcases hs.seq h with (h | ⟨o, h⟩) | ⟨o, its, n, k, hc, _⟩
        · exact .base (.lst h)
        · exact .base (.frz h)
        · exact .kList k hc
    · exact w.elim
def kits : List String := ["NoneType", "bool", "int", "str", "list", "tuple", "dict"]
def asks : List String := ["int", "bool", "str", "list", "tuple", "dict"]
theorem kit_tab : ∀ a ∈ kits, ∀ b ∈ asks, kitB a b = some (isiB a b) := by decide +kernel
theorem kind_in (d : D) (h : isObjD d = false) : kindN d ∈ kits := by
  cases d <;> first | (cases h; done) | simp [kindN, kits]
section
variable {X : Cx} {c : Ct} {e : Expr} {p p2 pos : Pos} {fa : M Hd} {T : String}
theorem f_isi {y : Str} (hT : T ∈ asks) (ha : FH X c e fa) (hg : Gl X "isinstance") (hm : X.mg "isinstance" = none) (hgT : Gl X y) (hmT : X.mg y = none) (hv : bootBuiltins y = some (.type T)) (hn : y ≠ "__name__" := by decide) (hdb : (y == ("__debug__" : Str)) = false := by decide)
    (he : starEach [e, .Name y p2] X.env = (false, eval e X.env) :: starEach [.Name y p2] X.env := by rfl) (he2 : starEach [.Name y p2] X.env = (false, eval (.Name y p2) X.env) :: starEach [] X.env := by rfl) (hpl : (backTo pos (starEach ([.Name y p2] : List Expr) X.env)).any (·.1) = false := by rfl) :
    FE X c (.Call (.Name "isinstance" p) [e, .Name y p2] [] pos) (m1H (gIsi T) fa) :=
  (pe_callB call_isi hg hm (by decide +kernel) (pa_cons ha (pa_cons (pe_bltn (v := .ty T) hgT hmT hv rfl hn hdb) pa_nil he2) he) (by decide) (by decide) he hpl).weak fun σ H Q h => by
    obtain ⟨S, env, d, env', E, e1, k⟩ := h
    unfold m1H at e1
    split at e1
    · cases e1
    · rename_i da ea qa
      split at e1
      · cases e1
      · rename_i a' q1
        split at e1
        · cases e1
        · rename_i z qz
          cases e1
          refine ⟨S, env, da, _, E, qa, fun S1 H1 v1 E1 s1 r1 => ?_⟩
          unfold gIsi at qz
          split at qz
          · cases qz
          · rename_i ho
            cases qz
            have ho' : isObjD a' = false := by simpa using ho
            exact ⟨v1, .ty T, _, _, _, rfl, .ty T, tyX_of (view E1 r1 q1) E1.sub ho', kit_ty (kit_tab _ (kind_in a' ho') T hT), k S1 H1 _ E1 s1 (.bl _)⟩
end

/-! ## items -/
theorem atI_rel {K : PySem.W.Frag} {S : Hp} {ds : List D} {vs : List V} {i : Int} {d : D} (r : RelDs K S ds vs) (h : atI ds i = some d) : ∃ v, atI vs i = some v ∧ RelD K S d v := by
  unfold atI at h ⊢
  rw [← r.length]
  cases e : ixN ds.length i with
  | none => rw [e] at h; cases h
  | some j =>
    rw [e] at h
    exact r.get h
def gIx : D → D → Option D
  | .lst xs, .int i => atI xs i
  | .tup xs, .int i => atI xs i
  | .scr ns, .int i => match atI ns i with
    | some n => some (.int n)
    | none => none
  | .str x, .int i => if x.length ≤ sizeLine then (match atI x.cps.toList i with
    | some ch => some (.str ⟨#[ch]⟩)
    | none => none) else none
  | _, _ => none
theorem o2_ix {K : PySem.W.Frag} : Op2 K (rIx K) gIx := by
  intro S H d e z x y Q q hd he hs kv ka
  unfold gIx at q
  split at q
  · rename_i xs i
    obtain ⟨a, vs, rfl, h, r⟩ := hd.lst hs
    obtain ⟨v, hv, rv⟩ := atI_rel r q
    exact .inl ⟨a, vs, i, v, rfl, vw_int he, .of h, hv, kv v rv⟩
  · rename_i xs i
    obtain ⟨a, vs, rfl, h, r⟩ := hd.tup hs
    obtain ⟨v, hv, rv⟩ := atI_rel r q
    exact .inr (.inl ⟨a, vs, i, v, rfl, vw_int he, h.sq, hv, kv v rv⟩)
  · rename_i ns i
    split at q
    · rename_i n hn
      cases q
      rcases hd with hd | ⟨p, _, w⟩
      · cases hd with
        | scr h =>
          refine .inl ⟨_, _, i, .int n, rfl, vw_int he, hs.seq h, ?_, kv _ (.int n)⟩
          unfold atI at hn ⊢
          rw [List.length_map]
          cases e : ixN ns.length i with
          | none => rw [e] at hn; cases hn
          | some j =>
            rw [e] at hn
            have hn' : ns[j]? = some n := hn
            show (ns.map V.int)[j]? = some (V.int n)
            rw [List.getElem?_map, hn']; rfl
      · exact w.elim
    · cases q
  · rename_i x' i
    split at q
    · rename_i hz
      split at q
      · rename_i ch hc
        cases q
        rcases hd with hd | ⟨p, _, w⟩
        · cases hd
          exact .inr (.inr ⟨x', i, ch, rfl, vw_int he, hz, hc, kv _ (.str _)⟩)
        · exact w.elim
      · cases q
    · cases q
  · cases q
section
variable {X : Cx} {c : Ct} {a b : Expr} {pos : Pos} {fa fb : M Hd}
theorem f_item (ha : FH X c a fa) (hb : FH X c b fb) (hs : PlainIx b) : FE X c (.Subscript a b pos) (m2H gIx fa fb) := f_ix ix_seq o2_ix ha hb hs
/-! ## d[k] of a dict, by an int or a text -/
def keyD : D → Option Key
  | .int i => some (.inl i)
  | .str x => some (.inr x)
  | _ => none
def getK (kvs : List (Key × D)) (k : Key) : Option D := (kvs.find? fun kv => decide (kv.1 = k)).map (·.2)
def gDGet : D → D → Option D
  | .dic kvs, k => match keyD k with
    | some k' => getK kvs k'
    | none => none
  | _, _ => none
theorem getK_rel {K : PySem.W.Frag} {S : Hp} {k : Key} : ∀ {ds : List (Key × D)} {vs : List (Key × V)} {d : D}, RelKs K S ds vs → getK ds k = some d → ∃ v, valV vs k = some v ∧ RelD K S d v
  | _, _, _, .nil, h => by cases h
  | _, _, d, .cons (k := k') (d := d') (ds := ds) (v := v') (vs := vs) r rs, h => by
    by_cases e : k' = k
    · rw [valV_pos e]
      have h' : getK ((k', d') :: ds) k = some d' := by simp [getK, e]
      rw [h'] at h; cases h
      exact ⟨_, rfl, r⟩
    · rw [valV_neg e]
      have h' : getK ((k', d') :: ds) k = getK ds k := by simp [getK, e]
      rw [h'] at h
      exact getK_rel rs h
theorem key_vw {K : PySem.W.Frag} {S H : Hp} {d : D} {k : Key} {v : V} (h : keyD d = some k) (w : Vw K S H d v) : v = kV k := by
  unfold keyD at h
  split at h
  · cases h; exact vw_int w
  · cases h
    rcases w with w | ⟨p, _, w⟩
    · cases w; rfl
    · exact w.elim
  · cases h
theorem o2_dget {K : PySem.W.Frag} : Op2 K (fun x y H Q => ∃ a v, x = .ref a ∧ DGet H a y (some v) ∧ Q v H) gDGet := by
  intro S H d e z x y Q q hd he hs kv ka
  unfold gDGet at q
  split at q
  · rename_i kvs k
    split at q
    · rename_i k' hk
      obtain ⟨a, vs, rfl, h, r⟩ := hd.dic hs
      obtain ⟨v, hv, rv⟩ := getK_rel r q
      refine ⟨a, v, rfl, ?_, kv v rv⟩
      rw [key_vw hk he, ← hv]
      exact DGet.k h
    · cases q
  · cases q
theorem f_dget {k : Nat} (room : Room k X.A) (ha : FH X c a fa) (hb : FH X c b fb) (hs : NoSl b) : FE X c (.Subscript a b pos) (m2H gDGet fa fb) :=
  (pe_dget (hu_of room) ha hb hs).weak (t2H o2_dget)
end
/-- d[k] = v, k a written text, d one's own -/
def putKD (kvs : List (Key × D)) (k : Key) (d : D) : List (Key × D) := if (kvs.any fun kv => decide (kv.1 = k)) = true then kvs.map (fun kv => if kv.1 = k then (kv.1, d) else kv) else kvs ++ [(k, d)]
def sDPutD (i : Nat) (k : Key) (fv : M D) : FS := fun e => match fv e with
  | some (d, e1) => (match e1[i]? with
    | some (.ow f (.dic kvs)) => if kvs.length < 1000 then some (.nx (e1.set i (.ow f (.dic (putKD kvs k d))))) else none
    | _ => none)
  | none => none
theorem RelKs.length {K : PySem.W.Frag} {S : Hp} : ∀ {ds : List (Key × D)} {vs : List (Key × V)}, RelKs K S ds vs → ds.length = vs.length
  | _, _, .nil => rfl
  | _, _, .cons _ r => congrArg (· + 1) (RelKs.length r)
theorem RelKs.append {K : PySem.W.Frag} {S : Hp} : ∀ {ds es : List (Key × D)} {vs us : List (Key × V)}, RelKs K S ds vs → RelKs K S es us → RelKs K S (ds ++ es) (vs ++ us)
  | _, _, _, _, .nil, s => s
  | _, _, _, _, .cons h r, s => .cons h (RelKs.append r s)
theorem RelKs.any {K : PySem.W.Frag} {S : Hp} {k : Key} : ∀ {ds : List (Key × D)} {vs : List (Key × V)}, RelKs K S ds vs → (ds.any fun kv => decide (kv.1 = k)) = vs.any fun kv => decide (kv.1 = k)
  | _, _, .nil => rfl
  | _, _, .cons _ r => by rw [List.any_cons, List.any_cons, RelKs.any r]
theorem RelKs.setAt {K : PySem.W.Frag} {S : Hp} {k : Key} {d : D} {v : V} (h : RelD K S d v) : ∀ {ds : List (Key × D)} {vs : List (Key × V)}, RelKs K S ds vs → RelKs K S (ds.map fun kv => if kv.1 = k then (kv.1, d) else kv) (vs.map fun kv => if kv.1 = k then (kv.1, v) else kv)
  | _, _, .nil => .nil
  | _, _, .cons (k := k') r rs => by
    rw [List.map_cons, List.map_cons]
    by_cases e : k' = k
    · rw [if_pos e, if_pos e]; exact .cons h (RelKs.setAt h rs)
    · rw [if_neg e, if_neg e]; exact .cons r (RelKs.setAt h rs)
theorem RelKs.put {K : PySem.W.Frag} {S : Hp} {k : Key} {d : D} {v : V} (h : RelD K S d v) {ds : List (Key × D)} {vs : List (Key × V)} (r : RelKs K S ds vs) : RelKs K S (putKD ds k d) (putK vs k v) := by
  unfold putKD putK
  rw [r.any]
  by_cases e : (vs.any fun kv => decide (kv.1 = k)) = true
  · rw [if_pos e, if_pos e]; exact r.setAt h
  · rw [if_neg e, if_neg e]; exact r.append (.cons h .nil)
section
variable {X : Cx} {c : Ct} {a b value : Expr} {pos pos' : Pos}
theorem fs_dput {n i : Nat} {x : Str} {px pk : Pos} {kk : Str} {jj} {fv : M D} (room : Room n X.A) (hi : PE X (.Name x px) (tVar i)) (hv : FE X c value fv) (hs : swapsWith value (some (.Subscript (.Name x px) (.Constant (.str kk) jj pk) pos')) pos.line X.env = pure false := by rfl) :
    FSt X c (.Assign [.Subscript (.Name x px) (.Constant (.str kk) jj pk) pos'] value pos) (sDPutD i (.inr kk) fv) := (ps_dput (hu_of room) hi pe_str hv hs).weak fun D' σ H ⟨S, env, o, E, e1, k⟩ => by
  unfold sDPutD at e1
  split at e1
  · rename_i d e2 q
    split at e1
    · rename_i f kvs q2
      split at e1
      · rename_i hl
        cases e1
        refine ⟨S, env, d, e2, E, q, fun S1 H1 v E1 s1 r1 => ?_⟩
        obtain ⟨p, a, ⟨vs, hp, rk⟩, z, w⟩ := E1.ow i f _ q2
        refine ⟨_, a, p, _, rfl, DPut.k (k := Sum.inr kk) hp (by rw [← rk.length]; exact small1000 (by omega)), ?_⟩
        exact k S1 _ σ (E1.chg q2 a (fun b hb => upd_ne hb) ⟨_, upd_same, rk.put r1⟩) s1
      · cases e1
    · cases e1
  · cases e1
/-- {'a': x, ..}: written texts, names -/
def mDispN : List (Str × Nat) → M (List (Key × D))
  | [], e => some ([], e)
  | (k, i) :: r, e => match e[i]? with
    | some (.sh d) => (match mDispN r e with
      | some (kvs, e1) => some ((.inr k, d) :: kvs, e1)
      | none => none)
    | _ => none
def mDicN (l : List (Str × Nat)) : M D := fun e => match mDispN l e with
  | some (kvs, e1) => some (.dic kvs, e1)
  | none => none
def trsN (l : List (Str × Nat)) : List (TE × TE) := l.map fun q => (tC (.str q.1), tVar q.2)
theorem dispN_env : ∀ {l : List (Str × Nat)} {e e1 : En} {kvs : List (Key × D)}, mDispN l e = some (kvs, e1) → e1 = e ∧ kvs.map (·.1) = l.map fun q => (.inr q.1 : Key)
  | [], _, _, _, h => by cases h; exact ⟨rfl, rfl⟩
  | (k, i) :: r, e, e1, kvs, h => by
    unfold mDispN at h
    split at h
    · split at h
      · rename_i q
        cases h
        obtain ⟨a, b⟩ := dispN_env q
        exact ⟨a, by rw [List.map_cons, List.map_cons, b]⟩
      · cases h
    · cases h
theorem tPairs_N {K : PySem.W.Frag} {S : Hp} {σ : L2.St} {env : En} (sh : ∀ (i : Nat) (d : D), env[i]? = some (.sh d) → ∃ v, σ[i]? = some (some v) ∧ RelD K S d v) :
    ∀ {l : List (Str × Nat)} {kvs : List (Key × D)} {e1 : En} {H : Hp} {Q : List (V × V) → Hp → Prop}, mDispN l env = some (kvs, e1) → (∀ vs, RelKs K S kvs vs → Q (vs.map fun kv => (kV kv.1, kv.2)) H) → tPairs (trsN l) σ H Q
  | [], _, _, _, _, h, k => by cases h; exact k [] .nil
  | (key, i) :: r, kvs, e1, H, Q, h, k => by
    unfold mDispN at h
    split at h
    · rename_i d q1
      split at h
      · rename_i kvs' e' q
        cases h
        obtain ⟨v, a, rv⟩ := sh i d q1
        refine ⟨v, a, ?_⟩
        exact tPairs_N sh q fun vs rs => k ((.inr key, v) :: vs) (.cons rv rs)
      · cases h
    · cases h
theorem mergeK_new : ∀ (more kvs : List (Key × V)), ((kvs ++ more).map (·.1)).Nodup → mergeK kvs more = kvs ++ more
  | [], kvs, _ => (List.append_nil kvs).symm
  | p :: r, kvs, nd => by
    show mergeK (putK kvs p.1 p.2) r = _
    have hn : p.1 ∉ kvs.map (·.1) := by
      rw [List.map_append] at nd
      intro h
      exact (List.nodup_append.mp nd).2.2 _ h p.1 (by simp) rfl
    have e : putK kvs p.1 p.2 = kvs ++ [p] := by
      unfold putK
      rw [if_neg]
      intro h
      obtain ⟨q, hq, e⟩ := List.any_eq_true.mp h
      exact hn (List.mem_map.mpr ⟨q, hq, of_decide_eq_true e⟩)
    rw [e, mergeK_new r (kvs ++ [p]) (by simpa using nd)]
    simp
theorem RelKs.keys {K : PySem.W.Frag} {S : Hp} : ∀ {ds : List (Key × D)} {vs : List (Key × V)}, RelKs K S ds vs → ds.map (·.1) = vs.map (·.1)
  | _, _, .nil => rfl
  | _, _, .cons _ r => by rw [List.map_cons, List.map_cons, RelKs.keys r]
theorem fo_dicN {keys : List (Option Expr)} {values : List Expr} (l : List (Str × Nat)) (h : PPs X pos keys values (trsN l)) (hall : keys.all (·.isSome) = true) (hl : keys.length = values.length) (h0 : keys ≠ []) (h15 : keys.length ≤ 15) (hl15 : l.length ≤ 15) (nd : (l.map (·.1)).Nodup) :
    FO X c (.Dict keys values pos) (mDicN l) := (pe_disp h hall hl h0 h15).weak fun σ H Q ⟨S, env, d, env', E, e1, kk⟩ => by
  unfold mDicN at e1
  split at e1
  · rename_i kvs e2 q
    cases e1
    obtain ⟨rfl, ek⟩ := dispN_env q
    intro p hp
    refine tPairs_N E.sh q fun vs rs => ⟨upd_same, vs, rfl, ?_, ?_⟩
    · have : kvs.length = l.length := by have := congrArg List.length ek; simpa using this
      rw [← rs.length, this]; exact hl15
    · rw [upd_upd, mergeK_new vs [] ?_]
      · rw [List.nil_append]
        refine kk S _ p (E.lay _ hp) (Same.refl _) ⟨vs, upd_same, rs⟩ (E.sub.free hp) ?_ fun j f e q z => ?_
        · cases ez : c.H0 p with
          | none => rfl
          | some o => exact absurd hp (E.dom p (by rw [ez]; exact fun z => nomatch z))
        · obtain ⟨p1, a1, o1, _⟩ := E.ow j f e q
          rw [a1] at z; cases z
          exact o1.there hp
      · rw [List.nil_append, ← rs.keys, ek]
        have : (l.map fun q => (Sum.inr q.1 : Key)) = (l.map (·.1)).map Sum.inr := by rw [List.map_map]; rfl
        rw [this]
        refine nd.map Sum.inr fun a b hab z => hab (Sum.inr.inj z)
  · cases e1
/-- {} -/
theorem fo_dic0 : FO X c (.Dict [] [] pos) (mDicN []) := pe_dnewK.weak fun σ H Q ⟨S, env, d, env', E, e1, kk⟩ => by
  cases e1
  intro p hp
  refine kk S _ p (E.lay _ hp) (Same.refl _) ⟨[], upd_same, .nil⟩ (E.sub.free hp) ?_ fun j f e q z => ?_
  · cases ez : c.H0 p with
    | none => rfl
    | some o => exact absurd hp (E.dom p (by rw [ez]; exact fun z => nomatch z))
  · obtain ⟨p1, a1, o1, _⟩ := E.ow j f e q
    rw [a1] at z; cases z
    exact o1.there hp
end
end FL

set_option Elab.async false
set_option linter.all false
set_option maxRecDepth 100000
set_option maxHeartbeats 2000000
namespace FL
open PySem PySem.Spec PyProof.Rows L2

/-! ## + and * -/
theorem opR_or {X : Cx} {f : Value → Value → Sem Value} {r r' : R2} (h : OpR X f r) (h' : OpR X f r') : OpR X f (fun x y H Q => r x y H Q ∨ r' x y H Q) := fun pins s σ H x y v u Q I rx ry q => q.elim (h pins s σ H x y v u Q I rx ry) (h' pins s σ H x y v u Q I rx ry)
def gAdd : D → D → Option D
  | .int i, .int j => some (.int (i + j))
  | .lst xs, .lst ys => if xs.length + ys.length ≤ sizeLine then some (.lst (xs ++ ys)) else none
  | .tup xs, .tup ys => if xs.length + ys.length ≤ sizeLine then some (.tup (xs ++ ys)) else none
  | .str x, .str y => if x.length + y.length ≤ sizeLine then some (.str (x ++ y)) else none
  | _, _ => none
def rAddStr : R2 := fun x y H Q => ∃ i j, x = .str i ∧ y = .str j ∧ i.length + j.length ≤ sizeLine ∧ Q (.str (i ++ j)) H
def rAdd4 (K : PySem.W.Frag) : R2 := fun x y H Q => rI0 (fun i j => .int (i + j)) x y H Q ∨ rCat x y H Q ∨ rCatA K x y H Q ∨ rAddStr x y H Q
theorem vw_str {K : PySem.W.Frag} {S H : Hp} {i : Str} {x : V} (h : Vw K S H (.str i) x) : x = .str i := by
  rcases h with h | ⟨p, _, h⟩
  · cases h; rfl
  · exact h.elim
theorem o2_add {K : PySem.W.Frag} : Op2 K (rAdd4 K) gAdd := by
  intro S H d e z x y Q q hd he hs kv ka
  unfold gAdd at q
  split at q
  · cases q
    exact .inl ⟨_, _, vw_int hd, vw_int he, kv _ (.int _)⟩
  · rename_i xs ys
    split at q
    · rename_i hz
      cases q
      obtain ⟨a, vs, rfl, h1, r1⟩ := hd.lst hs
      obtain ⟨b, us, rfl, h2, r2⟩ := he.lst hs
      refine .inr (.inl ⟨a, b, vs, us, rfl, rfl, h1, h2, by rw [← r1.length, ← r2.length]; exact hz, fun p hp => ka p _ hp ?_⟩)
      exact .lst upd_same ((r1.append r2).mono (same_upd (hs.free hp)))
    · cases q
  · rename_i xs ys
    split at q
    · rename_i hz
      cases q
      obtain ⟨a, vs, rfl, h1, r1⟩ := hd.tup hs
      obtain ⟨b, us, rfl, h2, r2⟩ := he.tup hs
      have back : ∀ {ds : List D} {v : V}, Vw K S H (.tup ds) v → RelD K S (.tup ds) v := fun {ds v} w => by
        rcases w with w | ⟨p, _, w⟩
        · exact w
        · exact w.elim
      refine .inr (.inr (.inl ⟨a, b, vs, us, rfl, rfl, h1.sq, h2.sq, by rw [← r1.length, ← r2.length]; exact hz, fun e => ?_, fun _ e => ?_, fun _ _ p hp => ka p _ hp ?_⟩))
      · subst e
        cases r1
        exact kv _ (back he)
      · subst e
        cases r2
        exact kv _ (by rw [List.append_nil]; exact back hd)
      · exact .tup (.inl upd_same) ((r1.append r2).mono (same_upd (hs.free hp)))
    · cases q
  · rename_i x' y'
    split at q
    · rename_i hz
      cases q
      exact .inr (.inr (.inr ⟨_, _, vw_str hd, vw_str he, hz, kv _ (.str _)⟩))
    · cases q
  · cases q
noncomputable def cRep (k : Int) (n : Nat) : Bool := chk (-(2 ^ 63) ≤ k ∧ k < 2 ^ 63 ∧ n * k.toNat ≤ sizeLine)
noncomputable def gMul : D → D → Option D
  | .int i, .int j => bif cMul i j then some (.int (i * j)) else none
  | .lst xs, .int k => bif cRep k xs.length then some (.lst (List.replicate k.toNat xs).flatten) else none
  | _, _ => none
theorem RelDs.rep {K : PySem.W.Frag} {S : Hp} {ds : List D} {vs : List V} (r : RelDs K S ds vs) : ∀ n : Nat, RelDs K S (List.replicate n ds).flatten (List.replicate n vs).flatten
  | 0 => .nil
  | n + 1 => by
    rw [List.replicate_succ, List.replicate_succ, List.flatten_cons, List.flatten_cons]
    exact r.append (RelDs.rep r n)
theorem o2_mul {K : PySem.W.Frag} : Op2 K (fun x y H Q => rI (fun i j => CMulX i j) (fun i j => .int (i * j)) x y H Q ∨ rRep x y H Q) gMul := by
  intro S H d e z x y Q q hd he hs kv ka
  unfold gMul at q
  split at q
  · obtain ⟨hz, rfl⟩ := bif_some q
    · exact .inl ⟨_, _, vw_int hd, vw_int he, chk_of hz, kv _ (.int _)⟩
  · rename_i xs k
    obtain ⟨hz, rfl⟩ := bif_some q
    · have hz := chk_of hz
      obtain ⟨a, vs, rfl, h1, r1⟩ := hd.lst hs
      refine .inr ⟨a, k, vs, rfl, vw_int he, h1, hz.1, hz.2.1, by rw [← r1.length]; exact hz.2.2, fun p hp => ka p _ hp ?_⟩
      exact .lst upd_same ((r1.rep _).mono (same_upd (hs.free hp)))
  · cases q
section
variable {X : Cx} {c : Ct} {a b : Expr} {pos : Pos} {fa fb : M Hd}
abbrev mAddA := m2H gAdd
noncomputable abbrev mMulA := m2H gMul
theorem f_addA (ha : FH X c a fa) (hb : FH X c b fb) : FE X c (.BinOp a .Add b pos) (mAddA fa fb) := f_binH (opR_or op_add (opR_or op_cat (opR_or op_catA op_add_str))) o2_add ha hb
theorem f_mulA (ha : FH X c a fa) (hb : FH X c b fb) : FE X c (.BinOp a .Mult b pos) (mMulA fa fb) := f_binH (opR_or op_mulX op_rep) o2_mul ha hb
end

/-! ## slices -/
def cutA {α : Type} (xs : List α) (lo hi : Option Int) : List α := (xs.drop (HT.sIx xs.length 0 lo)).take (HT.sIx xs.length xs.length hi - HT.sIx xs.length 0 lo)
def gSl : D → Option Int → Option Int → Option D
  | .tup xs, lo, hi => some (.tup (cutA xs lo hi))
  | .lst xs, lo, hi => some (.lst (cutA xs lo hi))
  | _, _, _ => none
def mPn : M (Option Int) := fun e => some (none, e)
def mPs (f : M D) : M (Option Int) := fun e => match f e with
  | some (.int i, e1) => some (some i, e1)
  | _ => none
def mSl (fa : M Hd) (flo fhi : M (Option Int)) : M D := fun e => match fa e with
  | some (h, e1) => (match flo e1 with
    | some (lo, e2) => (match fhi e2 with
      | some (hi, e3) => (match deref e3 h with
        | some d => (match gSl d lo hi with
          | some z => some (z, e3)
          | none => none)
        | none => none)
      | none => none)
    | none => none)
  | none => none
def tPt (K : PySem.W.Frag) (c : Ct) (f : M (Option Int)) : TO := fun σ H Q => ∃ S env o env', Er K c S H σ env ∧ f env = some (o, env') ∧ ∀ S' H', Er K c S' H' σ env' → Same S S' → Q o H'
section
variable {X : Cx} {c : Ct} {e : Expr} {pos p2 : Pos} {lo hi : Option Expr}
theorem fp_none : PO X none (tPt X.K c mPn) := ⟨fun pins s σ H Q I ⟨S, env, o, env', E, e1, k⟩ => by
  cases e1
  exact po_none.run pins s σ H Q I (k S H E (Same.refl _))⟩
theorem fp_some {f : M D} (h : FE X c e f) : PO X (some e) (tPt X.K c (mPs f)) := ⟨fun pins s σ H Q I ⟨S, env, o, env', E, e1, k⟩ => by
  unfold mPs at e1
  split at e1
  · rename_i i e2 q
    cases e1
    refine (po_some h).run pins s σ H Q I ⟨S, env, _, _, E, q, fun S1 H1 v E1 s1 r1 => ?_⟩
    cases r1
    exact ⟨i, rfl, k S1 H1 E1 s1⟩
  · cases e1⟩
theorem f_slice {fa : M Hd} {fl fh : M (Option Int)} (ha : FH X c e fa) (hl : PO X lo (tPt X.K c fl)) (hh : PO X hi (tPt X.K c fh)) : FE X c (.Subscript e (.Slice lo hi none p2) pos) (mSl fa fl fh) :=
  (pe_slice (sl_tupA.or sl_list) ha hl hh).weak fun σ H Q ⟨S, env, d, env', E, e1, k⟩ => by
    unfold mSl at e1
    split at e1
    · rename_i h ea qa
      split at e1
      · rename_i l el ql
        split at e1
        · rename_i u eu qu
          split at e1
          · rename_i d' qd
            split at e1
            · rename_i z qz
              cases e1
              refine ⟨S, env, h, ea, E, qa, fun S1 H1 v E1 s1 r1 => ⟨S1, ea, l, el, E1, ql, fun S2 H2 E2 s2 => ⟨S2, el, u, _, E2, qu, fun S3 H3 E3 s3 => ?_⟩⟩⟩
              have w := view E3 ((r1.mono s2).mono s3) qd
              have s13 := (s1.trans s2).trans s3
              unfold gSl at qz
              split at qz
              · rename_i xs
                cases qz
                obtain ⟨a, vs, rfl, h1, r⟩ := w.tup E3.sub
                refine .inl ⟨a, vs, rfl, h1.sq, fun hw => ?_, fun _ p hp => ?_⟩
                · have e : cutA xs l u = xs := by
                    unfold cutA
                    rw [r.length, hw.1, hw.2, List.drop_zero, Nat.sub_zero, ← r.length, List.take_length]
                  refine k S3 H3 _ E3 s13 ?_
                  rw [e]
                  rcases w with w | ⟨p, _, w⟩
                  · exact w
                  · exact w.elim
                · refine k _ _ _ (E3.laid _ hp) (s13.trans (same_upd (E3.sub.free hp))) (.tup (.inl upd_same) ?_)
                  refine RelDs.mono (same_upd (E3.sub.free hp)) ?_
                  unfold cutA cutV
                  rw [r.length]
                  exact (r.drop _).take _
              · rename_i xs
                cases qz
                obtain ⟨a, vs, rfl, h1, r⟩ := w.lst E3.sub
                refine .inr ⟨a, vs, rfl, .of h1, fun p hp => ?_⟩
                refine k _ _ _ (E3.laid _ hp) (s13.trans (same_upd (E3.sub.free hp))) (.lst upd_same ?_)
                refine RelDs.mono (same_upd (E3.sub.free hp)) ?_
                unfold cutA cutV
                rw [r.length]
                exact (r.drop _).take _
              · cases qz
            · cases e1
          · cases e1
        · cases e1
      · cases e1
    · cases e1
end

/-! ## built-ins by values -/
def gMin2 : List D → Option D
  | [.int i, .int j] => some (.int (if j < i then j else i))
  | _ => none
def gMax2 : List D → Option D
  | [.int i, .int j] => some (.int (if j > i then j else i))
  | _ => none
def gList : List D → Option D
  | [.lst xs] => some (.lst xs)
  | [.tup xs] => some (.lst xs)
  | _ => none
def gTuple : List D → Option D
  | [.lst xs] => some (.tup xs)
  | [.tup xs] => some (.tup xs)
  | _ => none
noncomputable def intOk (i : Int) : Bool := chk (i.natAbs.log2 < 1920)
noncomputable def gStrI : List D → Option D
  | [.int i] => bif intOk i then some (.str (toString i)) else none
  | _ => none
section
variable {X : Cx} {c : Ct} {e : Expr} {es : List Expr} {x : Str} {p pos : Pos} {id T : String} {r : List V → Hp → VK → Prop} {g : List D → Option D} {f : M (List D)}
theorem f_blt (hc : CallR X (.builtin id) r) (ho : OpN X.K r g) (ha : FA X c (e :: es) f) (hg : Gl X x) (hm : X.mg x = none) (hv : bootBuiltins x = some (.builtin id)) (hn : x ≠ "__name__" := by decide) (hdb : (x == ("__debug__" : Str)) = false := by decide)
    (he : starEach (e :: es) X.env = (false, eval e X.env) :: starEach es X.env := by rfl) (hpl : (backTo pos (starEach es X.env)).any (·.1) = false := by rfl) : FE X c (.Call (.Name x p) (e :: es) [] pos) (mMk g f) := (pe_callB hc hg hm hv ha hn hdb he hpl).weak (tN ho)
theorem f_bty (hc : CallR X (.type T) r) (ho : OpN X.K r g) (ha : FA X c (e :: es) f) (hg : Gl X x) (hm : X.mg x = none) (hv : bootBuiltins x = some (.type T)) (hn : x ≠ "__name__" := by decide) (hdb : (x == ("__debug__" : Str)) = false := by decide)
    (he : starEach (e :: es) X.env = (false, eval e X.env) :: starEach es X.env := by rfl) (hpl : (backTo pos (starEach es X.env)).any (·.1) = false := by rfl) : FE X c (.Call (.Name x p) (e :: es) [] pos) (mMk g f) := (pe_callTy hc hg hm hv ha hn hdb he hpl).weak (tN ho)
theorem on_min2 {K : PySem.W.Frag} : OpN K (fun xs H Q => ∃ i j, xs = [.int i, .int j] ∧ Q (.int (if j < i then j else i)) H) gMin2 := by
  intro S H ds z xs Q q rs hs kv ka
  unfold gMin2 at q
  split at q
  · cases q
    cases rs with
    | cons r1 rs => cases rs with
      | cons r2 rs => cases rs; cases r1; cases r2; exact ⟨_, _, rfl, kv _ (.int _)⟩
  · cases q
theorem on_max2 {K : PySem.W.Frag} : OpN K (fun xs H Q => ∃ i j, xs = [.int i, .int j] ∧ Q (.int (if j > i then j else i)) H) gMax2 := by
  intro S H ds z xs Q q rs hs kv ka
  unfold gMax2 at q
  split at q
  · cases q
    cases rs with
    | cons r1 rs => cases rs with
      | cons r2 rs => cases rs; cases r1; cases r2; exact ⟨_, _, rfl, kv _ (.int _)⟩
  · cases q
theorem on_list {K : PySem.W.Frag} : OpN K (fun xs H Q => ∃ p ys, xs = [.ref p] ∧ (SqL K H p ys ∨ SqT K H p ys) ∧ ∀ l, H l = none → Q (.ref l) (upd H l (.lst ys))) gList := by
  intro S H ds z xs Q q rs hs kv ka
  unfold gList at q
  split at q
  · cases q
    cases rs with
    | cons r1 rs => cases rs; cases r1 with
      | lst h r => exact ⟨_, _, rfl, .inl (.of (hs _ _ h)), fun p hp => ka p _ hp (.lst upd_same (r.mono (same_upd (hs.free hp))))⟩
  · cases q
    cases rs with
    | cons r1 rs => cases rs; cases r1 with
      | tup h r => exact ⟨_, _, rfl, .inr (h.same hs).sq, fun p hp => ka p _ hp (.lst upd_same (r.mono (same_upd (hs.free hp))))⟩
  · cases q
theorem on_tuple {K : PySem.W.Frag} : OpN K (fun xs H Q => ∃ p ys, xs = [.ref p] ∧ ((SqL K H p ys ∧ ∀ l, H l = none → Q (.ref l) (upd H l (.tup ys))) ∨ (SqT K H p ys ∧ Q (.ref p) H))) gTuple := by
  intro S H ds z xs Q q rs hs kv ka
  unfold gTuple at q
  split at q
  · cases q
    cases rs with
    | cons r1 rs => cases rs; cases r1 with
      | lst h r => exact ⟨_, _, rfl, .inl ⟨.of (hs _ _ h), fun p hp => ka p _ hp (.tup (.inl upd_same) (r.mono (same_upd (hs.free hp))))⟩⟩
  · cases q
    cases rs with
    | cons r1 rs => cases rs; cases r1 with
      | tup h r => exact ⟨_, _, rfl, .inr ⟨(h.same hs).sq, kv _ (.tup h r)⟩⟩
  · cases q
theorem on_str {K : PySem.W.Frag} : OpN K (fun xs H Q => ∃ i, xs = [.int i] ∧ i.natAbs.log2 < 1920 ∧ Q (.str (toString i)) H) gStrI := by
  intro S H ds z xs Q q rs hs kv ka
  unfold gStrI at q
  split at q
  · obtain ⟨hz, rfl⟩ := bif_some q
    · cases rs with
      | cons r1 rs => cases rs; cases r1; exact ⟨_, rfl, chk_of hz, kv _ (.str _)⟩
  · cases q
theorem f_min2 {a b : Expr} (hca : X.calm = true) (ha : FA X c [a, b] f) (hg : Gl X "min") (hm : X.mg "min" = none) (he : starEach [a, b] X.env = (false, eval a X.env) :: starEach [b] X.env := by rfl) (hpl : (backTo pos (starEach [b] X.env)).any (·.1) = false := by rfl) :
    FE X c (.Call (.Name "min" p) [a, b] [] pos) (mMk gMin2 f) := f_blt (call_min2 hca) on_min2 ha hg hm (by decide +kernel) (by decide) (by decide) he hpl
theorem f_max2 {a b : Expr} (hca : X.calm = true) (ha : FA X c [a, b] f) (hg : Gl X "max") (hm : X.mg "max" = none) (he : starEach [a, b] X.env = (false, eval a X.env) :: starEach [b] X.env := by rfl) (hpl : (backTo pos (starEach [b] X.env)).any (·.1) = false := by rfl) :
    FE X c (.Call (.Name "max" p) [a, b] [] pos) (mMk gMax2 f) := f_blt (call_max2 hca) on_max2 ha hg hm (by decide +kernel) (by decide) (by decide) he hpl
theorem f_list {a : Expr} (ha : FA X c [a] f) (hg : Gl X "list") (hm : X.mg "list" = none) (he : starEach [a] X.env = (false, eval a X.env) :: starEach [] X.env := by rfl) (hpl : (backTo pos (starEach ([] : List Expr) X.env)).any (·.1) = false := by rfl) :
    FE X c (.Call (.Name "list" p) [a] [] pos) (mMk gList f) := f_bty call_list_of on_list ha hg hm (by decide +kernel) (by decide) (by decide) he hpl
theorem f_tuple {a : Expr} (ha : FA X c [a] f) (hg : Gl X "tuple") (hm : X.mg "tuple" = none) (he : starEach [a] X.env = (false, eval a X.env) :: starEach [] X.env := by rfl) (hpl : (backTo pos (starEach ([] : List Expr) X.env)).any (·.1) = false := by rfl) :
    FE X c (.Call (.Name "tuple" p) [a] [] pos) (mMk gTuple f) := f_bty call_tuple_of on_tuple ha hg hm (by decide +kernel) (by decide) (by decide) he hpl
theorem f_strI {a : Expr} (ha : FA X c [a] f) (hg : Gl X "str") (hm : X.mg "str" = none) (he : starEach [a] X.env = (false, eval a X.env) :: starEach [] X.env := by rfl) (hpl : (backTo pos (starEach ([] : List Expr) X.env)).any (·.1) = false := by rfl) :
    FE X c (.Call (.Name "str" p) [a] [] pos) (mMk gStrI f) := f_bty call_str_int on_str ha hg hm (by decide +kernel) (by decide) (by decide) he hpl
end

/-! ## for and while -/
def loopF (set : FG) (body : FS) : List D → En → Option Out
  | [], e => some (.nx e)
  | d :: r, e => match set d e with
    | none => none
    | some e1 => match body e1 with
      | some (.nx e2) => loopF set body r e2
      | some (.ct e2) => loopF set body r e2
      | some (.bk e2) => some (.nx e2)
      | some (.rt d e2) => some (.rt d e2)
      | some (.ro d e2) => some (.ro d e2)
      | none => none
/-- what may be walked: its items -/
def itemsD : D → Option (List D)
  | .lst xs => some xs
  | .scr ns => some (ns.map .int)
  | _ => none
def sForL (f : M D) (set : FG) (body : FS) : FS := fun e => match f e with
  | some (d, e1) => (match itemsD d with
    | some ds => loopF set body ds e1
    | none => none)
  | none => none
def sForT (f : M D) (set : FG) (body : FS) : FS := fun e => match f e with
  | some (.tup ds, e1) => loopF set body ds e1
  | _ => none
def upTo (n : Nat) : List D := (List.range n).map fun (i : Nat) => D.int (i : Int)
def rgOk (j : Int) : Bool := decide (-(2 ^ 62) ≤ j) && decide (j < 2 ^ 62)
def sForR (f : M (List D)) (set : FG) (body : FS) : FS := fun e => match f e with
  | some ([.int j], e1) => if rgOk j = true then loopF set body (upTo j.toNat) e1 else none
  | _ => none
section
variable {X : Cx} {c : Ct} {tg l a b t : Expr} {body : List Stmt} {pos p : Pos} {set : FG} {fb : FS}
/-- one turn -/
theorem loop_turn {K : PySem.W.Frag} {S S1 : Hp} {D' : Ends} {d : D} {r : List D} {x : V} {o : Out} {e : En} {σ : L2.St} {H : Hp} {Pn : L2.St → Hp → Prop} (E : Er K c S1 H σ e) (s1 : Same S S1) (rd : RelD K S1 d x) (q : loopF set fb (d :: r) e = some o)
    (nx : ∀ S2 H2 σ2 e2, Er K c S2 H2 σ2 e2 → Same S S2 → loopF set fb r e2 = some o → Pn σ2 H2) (k : oK K c S D' o) : tG K c set x σ H fun σ2 H2 => tS K c fb { D' with nx := Pn, ct := Pn, bk := D'.nx } σ2 H2 := by
  unfold loopF at q
  split at q
  · cases q
  · rename_i e1 q1
    refine ⟨S1, e, d, e1, E, rd, q1, fun σ2 S2 H2 E2 s2 => ?_⟩
    have s12 := s1.trans s2
    split at q
    · rename_i e2 q2
      exact ⟨S2, e1, _, E2, q2, fun S3 H3 σ3 E3 s3 => nx S3 H3 σ3 e2 E3 (s12.trans s3) q⟩
    · rename_i e2 q2
      exact ⟨S2, e1, _, E2, q2, fun S3 H3 σ3 E3 s3 => nx S3 H3 σ3 e2 E3 (s12.trans s3) q⟩
    · rename_i e2 q2
      cases q
      exact ⟨S2, e1, _, E2, q2, fun S3 H3 σ3 E3 s3 => k S3 H3 σ3 E3 (s12.trans s3)⟩
    · rename_i d' e2 q2
      cases q
      exact ⟨S2, e1, _, E2, q2, fun S3 H3 σ3 v E3 s3 r3 => k S3 H3 σ3 v E3 (s12.trans s3) r3⟩
    · rename_i d' e2 q2
      cases q
      exact ⟨S2, e1, _, E2, q2, fun S3 H3 σ3 v E3 s3 r3 => k S3 H3 σ3 v E3 (s12.trans s3) r3⟩
    · cases q
theorem fs_forL {f : M D} (hp : PassesOwn (model X.prog X.w) X.A X.env X.xe) (hc : X.calm = true) (hl : FE X c l f) (hg : FGt X c tg set) (hb : FSs X c body fb) (hs : ∀ x, foldedSetIterable l X.env x = pure x := by intro _; rfl) : FSt X c (.For tg l body [] pos) (sForL f set fb) :=
  (ps_for hp hc (pi_list hl) hg hb hs).weak fun D' σ H ⟨S, env, o, E, e1, k⟩ => by
    unfold sForL at e1
    split at e1
    · rename_i d e2 q
      split at e1
      · rename_i ds qd
        refine ⟨S, env, d, e2, E, q, fun S1 H1 v E1 s1 r1 => ?_⟩
        obtain ⟨a, vs, rfl, hv, rs⟩ : ∃ a vs, v = .ref a ∧ SqL X.K S1 a vs ∧ RelDs X.K S1 ds vs := by
          unfold itemsD at qd
          split at qd
          · cases qd; cases r1 with
            | lst h r => exact ⟨_, _, rfl, .of h, r⟩
          · cases qd; cases r1 with
            | scr h => exact ⟨_, _, rfl, h, .of_ints _⟩
          · cases qd
        refine ⟨a, rfl, ⟨vs, E1.sub.seq hv⟩, for_list (xs := vs) (fun i σ H => ∃ S2 e, Er X.K c S2 H σ e ∧ Same S1 S2 ∧ loopF set fb (ds.drop i) e = some o) ⟨S1, e2, E1, Same.refl _, by rw [List.drop_zero]; exact e1⟩ ?_ ?_ ?_⟩
        · rintro i σ' H' _ ⟨S2, e, E2, s2, _⟩
          exact (s2.trans E2.sub).seq hv
        · rintro i x σ' H' hx ⟨S2, e, E2, s2, q2⟩
          have hi : i < ds.length := by rw [rs.length]; exact (List.getElem?_eq_some_iff.mp hx).1
          rw [List.drop_eq_getElem_cons hi] at q2
          obtain ⟨x', hx', rx⟩ := rs.get (List.getElem?_eq_getElem hi)
          rw [hx] at hx'; cases hx'
          exact loop_turn (S := S1) E2 s2 (rx.mono s2) q2 (fun S3 H3 σ3 e3 E3 s3 q3 => ⟨S3, e3, E3, s3, q3⟩) (k.mono s1)
        · rintro σ' H' ⟨S2, e, E2, s2, q2⟩
          rw [List.drop_eq_nil_of_le (by rw [rs.length]; exact Nat.le_refl _)] at q2
          cases q2
          exact k S2 H' σ' E2 (s1.trans s2)
      · cases e1
    · cases e1
theorem fs_forT {f : M D} (hp : PassesOwn (model X.prog X.w) X.A X.env X.xe) (hc : X.calm = true) (hl : FE X c l f) (hg : FGt X c tg set) (hb : FSs X c body fb) (hs : ∀ x, foldedSetIterable l X.env x = pure x := by intro _; rfl) : FSt X c (.For tg l body [] pos) (sForT f set fb) :=
  (ps_for hp hc (pi_tup hl) hg hb hs).weak fun D' σ H ⟨S, env, o, E, e1, k⟩ => by
    unfold sForT at e1
    split at e1
    · rename_i ds e2 q
      refine ⟨S, env, _, e2, E, q, fun S1 H1 v E1 s1 r1 => ?_⟩
      cases r1 with
      | @tup a _ vs h rs =>
        refine ⟨a, rfl, ⟨vs, (h.same E1.sub).sq⟩, for_tup (xs := vs) (fun i σ H => ∃ S2 e, Er X.K c S2 H σ e ∧ Same S1 S2 ∧ loopF set fb (ds.drop i) e = some o) ⟨S1, e2, E1, Same.refl _, by rw [List.drop_zero]; exact e1⟩ ?_ ?_ ?_⟩
        · rintro i σ' H' _ ⟨S2, e, E2, s2, _⟩
          exact (h.same (s2.trans E2.sub)).sq
        · rintro i x σ' H' hx ⟨S2, e, E2, s2, q2⟩
          have hi : i < ds.length := by rw [rs.length]; exact (List.getElem?_eq_some_iff.mp hx).1
          rw [List.drop_eq_getElem_cons hi] at q2
          obtain ⟨x', hx', rx⟩ := rs.get (List.getElem?_eq_getElem hi)
          rw [hx] at hx'; cases hx'
          exact loop_turn (S := S1) E2 s2 (rx.mono s2) q2 (fun S3 H3 σ3 e3 E3 s3 q3 => ⟨S3, e3, E3, s3, q3⟩) (k.mono s1)
        · rintro σ' H' ⟨S2, e, E2, s2, q2⟩
          rw [List.drop_eq_nil_of_le (by rw [rs.length]; exact Nat.le_refl _)] at q2
          cases q2
          exact k S2 H' σ' E2 (s1.trans s2)
    · cases e1
theorem upTo_drop {n i : Nat} (h : i < n) : (upTo n).drop i = .int (i : Int) :: (upTo n).drop (i + 1) := by
  have e : (List.range n).drop i = i :: (List.range n).drop (i + 1) := by
    rw [List.drop_eq_getElem_cons (by simpa using h)]
    simp
  unfold upTo
  rw [← List.map_drop, ← List.map_drop, e]
  rfl
theorem fs_forR {f : M (List D)} (hp : PassesOwn (model X.prog X.w) X.A X.env X.xe) (hc : X.calm = true) (hl : FA X c [a] f) (hg : FGt X c tg set) (hb : FSs X c body fb) (gl : Gl X "range") (hm : X.mg "range" = none) (he : starEach [a] X.env = [(false, eval a X.env)] := by rfl)
    {p2 : Pos} (hs2 : ∀ x, foldedSetIterable (.Call (.Name "range" p) [a] [] p2) X.env x = pure x := by intro _; rfl) : FSt X c (.For tg (.Call (.Name "range" p) [a] [] p2) body [] pos) (sForR f set fb) :=
  (ps_for hp hc (pi_range1 gl hm hl he) hg hb hs2).weak fun D' σ H ⟨S, env, o, E, e1, k⟩ => by
    unfold sForR at e1
    split at e1
    · rename_i j e2 q
      split at e1
      · rename_i hj
        unfold rgOk at hj
        simp only [Bool.and_eq_true, decide_eq_true_eq] at hj
        refine ⟨S, env, _, e2, E, q, fun S1 H1 vs E1 s1 r1 => ?_⟩
        cases r1 with
        | cons r1 rn =>
          cases rn; cases r1
          refine ⟨j, rfl, hj.1, hj.2, for_range (lo := 0) (n := j.toNat) (fun i σ H => ∃ S2 e, Er X.K c S2 H σ e ∧ Same S1 S2 ∧ loopF set fb ((upTo j.toNat).drop i) e = some o) ⟨S1, e2, E1, Same.refl _, by rw [List.drop_zero]; exact e1⟩ ?_ ?_⟩
          · rintro i σ' H' hi ⟨S2, e, E2, s2, q2⟩
            rw [upTo_drop hi] at q2
            rw [Int.zero_add]
            exact loop_turn (S := S1) E2 s2 (.int _) q2 (fun S3 H3 σ3 e3 E3 s3 q3 => ⟨S3, e3, E3, s3, q3⟩) (k.mono s1)
          · rintro σ' H' ⟨S2, e, E2, s2, q2⟩
            rw [List.drop_eq_nil_of_le (by unfold upTo; simp)] at q2
            cases q2
            exact k S2 H' σ' E2 (s1.trans s2)
      · cases e1
    · cases e1
/-- while, at most n turns -/
def whileF (tst : M Bool) (body : FS) : Nat → En → Option Out
  | 0, _ => none
  | n + 1, e => match tst e with
    | some (false, e1) => some (.nx e1)
    | some (true, e1) => (match body e1 with
      | some (.nx e2) => whileF tst body n e2
      | some (.ct e2) => whileF tst body n e2
      | some (.bk e2) => some (.nx e2)
      | some (.rt d e2) => some (.rt d e2)
      | some (.ro d e2) => some (.ro d e2)
      | none => none)
    | none => none
def sWhile (n : Nat) (tst : M Bool) (body : FS) : FS := whileF tst body n
theorem fs_while {n : Nat} {ft : M Bool} (hp : PassesOwn (model X.prog X.w) X.A X.env X.xe) (ht : FT X c t ft) (hb : FSs X c body fb) : FSt X c (.While t body [] pos) (sWhile n ft fb) :=
  (ps_while hp ht hb).weak fun D' σ H ⟨S, env, o, E, e1, k⟩ => by
    refine ⟨fun m σ H => ∃ S2 e, Er X.K c S2 H σ e ∧ Same S S2 ∧ whileF ft fb m e = some o, ⟨n, S, env, E, Same.refl _, e1⟩, ?_⟩
    rintro m σ' H' ⟨S2, e, E2, s2, q⟩
    cases m with
    | zero => cases q
    | succ m =>
      unfold whileF at q
      split at q
      · rename_i e2 q2
        cases q
        exact ⟨S2, e, _, e2, E2, q2, fun S3 H3 E3 s3 => iteF (k S3 H3 σ' E3 (s2.trans s3))⟩
      · rename_i e2 q2
        refine ⟨S2, e, _, e2, E2, q2, fun S3 H3 E3 s3 => iteT ⟨fun σ4 H4 => ∃ S4 e4, Er X.K c S4 H4 σ4 e4 ∧ Same S S4 ∧ whileF ft fb m e4 = some o, ?_, ?_⟩⟩
        · rintro σ4 H4 ⟨S4, e4, E4, s4, q4⟩
          exact ⟨m, Nat.lt_succ_self _, S4, e4, E4, s4, q4⟩
        · have s13 := s2.trans s3
          split at q
          · rename_i e3 q3
            exact ⟨S3, e2, _, E3, q3, fun S4 H4 σ4 E4 s4 => ⟨S4, e3, E4, s13.trans s4, q⟩⟩
          · rename_i e3 q3
            exact ⟨S3, e2, _, E3, q3, fun S4 H4 σ4 E4 s4 => ⟨S4, e3, E4, s13.trans s4, q⟩⟩
          · rename_i e3 q3
            cases q
            exact ⟨S3, e2, _, E3, q3, fun S4 H4 σ4 E4 s4 => k S4 H4 σ4 E4 (s13.trans s4)⟩
          · rename_i d e3 q3
            cases q
            exact ⟨S3, e2, _, E3, q3, fun S4 H4 σ4 v E4 s4 r4 => k S4 H4 σ4 v E4 (s13.trans s4) r4⟩
          · rename_i d e3 q3
            cases q
            exact ⟨S3, e2, _, E3, q3, fun S4 H4 σ4 v E4 s4 r4 => k S4 H4 σ4 v E4 (s13.trans s4) r4⟩
          · cases q
      · cases q
end
end FL

set_option Elab.async false
set_option linter.all false
set_option maxRecDepth 100000
set_option maxHeartbeats 2000000
namespace FL
open PySem PySem.Spec PyProof.Rows L2

/-! ## a, b = x, y -/
def sPar (is : List Nat) (f : M (List D)) : FS := fun e => match f e with
  | some (ds, e1) => (match gSets (is.map gSet) ds e1 with
    | some e2 => some (.nx e2)
    | none => none)
  | none => none
section
variable {X : Cx} {c : Ct} {a b d : Expr} {pos px py pz pt pt2 : Pos} {kt k2}
theorem fs_par {i j : Nat} {x y : Str} {f : M (List D)} (hc : X.calm = true) (hN : X.N.Nodup) (hi : X.N[i]? = some x) (hj : X.N[j]? = some y) (hij : i ≠ j) (hx : X.env.scope.names.lookup x = some .local) (hy : X.env.scope.names.lookup y = some .local) (ha : FA X c [a, b] f)
    (hw : swappedStores [.Tuple [.Name x px, .Name y py] kt pt] (.Tuple [a, b] k2 pt2) X.env = pure (some [x, y])) (hs : swapsWithSole [.Tuple [.Name x px, .Name y py] kt pt] (.Tuple [a, b] k2 pt2) pos.line X.env = pure false := by rfl) :
    FSt X c (.Assign [.Tuple [.Name x px, .Name y py] kt pt] (.Tuple [a, b] k2 pt2) pos) (sPar [i, j] f) := (ps_par hc hN hi hj hij hx hy ha hw hs).weak fun D' σ H ⟨S, env, o, E, e1, k⟩ => by
  unfold sPar at e1
  split at e1
  · rename_i ds e2 q
    split at e1
    · rename_i e3 q2
      cases e1
      refine ⟨S, env, ds, e2, E, q, fun S1 H1 vs E1 s1 r1 => ?_⟩
      obtain ⟨d1, d2, rfl⟩ : ∃ d1 d2, ds = [d1, d2] := by
        have hl : ds.length = 2 := gSets_len q2
        match ds, hl with
        | [d1, d2], _ => exact ⟨d1, d2, rfl⟩
      cases r1 with
      | cons r1 r => cases r with
        | cons r2 r =>
          cases r
          have q2' : (match gSet i d1 e2 with
            | some e1 => gSets [gSet j] [d2] e1
            | none => none) = some e3 := q2
          split at q2'
          · rename_i ea qa
            have q3 : (match gSet j d2 ea with
              | some e1 => gSets [] [] e1
              | none => none) = some e3 := q2'
            split at q3
            · rename_i eb qb
              have q4 : some eb = some e3 := q3
              cases q4
              exact ⟨_, _, rfl, k S1 H1 _ (gSet_ok (gSet_ok E1 qa r1) qb r2) s1⟩
            · cases q3
          · cases q2'
    · cases e1
  · cases e1
end

/-! ## calls by keywords -/
def mCallK (φ : Fn) (g : List D → List D → List D) (fa fk : M (List D)) : M D := fun e => match fa e with
  | some (ds, e1) => (match fk e1 with
    | some (zs, e2) => (match φ ((g ds zs).map .sh) with
      | some (r, _) => some (r, e2)
      | none => none)
    | none => none)
  | none => none
/-- how keywords are put in the parameters' order, for any kind of things -/
abbrev Perm := (α : Type) → List α → List α → List α
theorem kbinds_of {K : PySem.W.Frag} {fd : FuncData} {ps ks : List Str} (g : Perm) (hto : ∀ us ws : List Value, (g Value us ws).length = ps.length → bindArgs fd ⟨us, ks.zip ws⟩ = pure (ps.zip (g Value us ws)))
    (hrel : ∀ {vs : List V} {us : List Value} {zs : List V} {ws : List Value}, Vals vs us → Vals zs ws → Vals (g V vs zs) (g Value us ws)) : KBinds K fd ps ks (g Value) (g V) :=
  ⟨fun s us ws _ hl => .of_eq (hto us ws hl), hrel⟩
section
variable {X : Cx} {c : Ct} {k : Nat} {f : Addr} {fd : FuncData} {ps ks : List Str} {φ : Fn} {x : Str} {p pos : Pos} {e : Expr} {es : List Expr} {kws : List Keyword} {fa fk : M (List D)} {g : Perm}
theorem fk_nil : PK X [] (tMs X.K c mNil) := ⟨fun pos pins s σ H Q I ⟨S, env, d, env', E, e1, kk⟩ => by
  cases e1
  exact pk_nil.run pos pins s σ H Q I (kk S H [] E (Same.refl _) .nil)⟩
theorem fk_cons {nm : Option Str} {kpos : Pos} {fe : M D} {fr : M (List D)} (he : FE X c e fe) (hr : PK X kws (tMs X.K c fr)) : PK X (⟨nm, e, kpos⟩ :: kws) (tMs X.K c (mCons fe fr)) := ⟨fun pos pins s σ H Q I ⟨S, env, d, env', E, e1, k⟩ => by
  unfold mCons at e1
  split at e1
  · cases e1
  · rename_i da ea qa
    split at e1
    · cases e1
    · rename_i db eb qb
      cases e1
      exact (pk_cons he hr).run pos pins s σ H Q I ⟨S, env, da, ea, E, qa, fun S1 H1 v1 E1 s1 r1 => ⟨S1, ea, db, _, E1, qb, fun S2 H2 v2 E2 s2 r2 => k S2 H2 _ E2 (s1.trans s2) (.cons (r1.mono s2) r2)⟩⟩⟩
theorem t_callK (hg : ∀ {S : Hp} {ds zs : List D} {vs us : List V}, RelDs X.K S ds vs → RelDs X.K S zs us → RelDs X.K S (g D ds zs) (g V vs us)) (σ : L2.St) (H : Hp) (Q : VK) (h : tM X.K c (mCallK φ (g D) fa fk) σ H Q) : tCallK (spF X.K φ) (g V) E0 (tMs X.K c fa) (tMs X.K c fk) σ H Q := by
  obtain ⟨S, env, d, env', E, e1, kk⟩ := h
  unfold mCallK at e1
  split at e1
  · rename_i ds e2 q
    split at e1
    · rename_i zs e3 q2
      split at e1
      · rename_i r e4 q3
        cases e1
        refine ⟨S, env, ds, _, E, q, fun S1 H1 vs E1 s1 r1 => ⟨S1, e2, zs, _, E1, q2, fun S2 H2 us E2 s2 r2 => ?_⟩⟩
        refine ⟨_, S2, _, _, _, ER.args E2.sub (hg (r1.mono s2) r2), q3, fun S3 H3 v E3 s3 r3 => ?_⟩
        exact kk S3 H3 v (E2.grow E3.s0 E3.sub E3.dom (fun b o z => E3.kep b o z fun _ z => by cases z) E3.frs) ((s1.trans s2).trans s3) r3
      · cases e1
    · cases e1
  · cases e1
/-- f(e, .., k = v, ..) -/
theorem f_callK (G : FnG X.prog X.w X.K X.mg X.base CX0 k f fd ps (spF X.K φ)) (gu : Gd X.A X.base) (room : Room k X.A) (gl : Gl X x) (hm : X.mg x = some (.ref f)) (kp : PySem.W.keepIn X.K (.ref f) = true) (kb : KBinds X.K fd ps ks (g Value) (g V))
    (hg : ∀ {S : Hp} {ds zs : List D} {vs us : List V}, RelDs X.K S ds vs → RelDs X.K S zs us → RelDs X.K S (g D ds zs) (g V vs us)) (ha : FA X c (e :: es) fa) (hk : PK X kws (tMs X.K c fk)) (n0 : (backToKw pos (keywordEach kws X.env)).all (·.1.isSome) = true := by rfl)
    (nk : (backToKw pos (keywordEach kws X.env)).filterMap (·.1) = ks := by rfl) (n1 : (x == ("__debug__" : Str)) = false := by decide) (n2 : starEach (e :: es) X.env = (false, eval e X.env) :: starEach es X.env := by rfl)
    (n3 : ((backTo pos (starEach (e :: es) X.env)).any (·.1) || (backToKw pos (keywordEach kws X.env)).any (·.1.isNone)) = false := by rfl) : FE X c (.Call (.Name x p) (e :: es) kws pos) (mCallK φ (g D) fa fk) :=
  (callGK G gu room gl hm kp kb pass0 ha hk n0 nk n1 n2 n3).weak (t_callK hg)
/-- f(k = v, ..) -/
theorem f_callK0 (G : FnG X.prog X.w X.K X.mg X.base CX0 k f fd ps (spF X.K φ)) (gu : Gd X.A X.base) (room : Room k X.A) (gl : Gl X x) (hm : X.mg x = some (.ref f)) (kp : PySem.W.keepIn X.K (.ref f) = true) (kb : KBinds X.K fd ps ks (g Value) (g V))
    (hg : ∀ {S : Hp} {ds zs : List D} {vs us : List V}, RelDs X.K S ds vs → RelDs X.K S zs us → RelDs X.K S (g D ds zs) (g V vs us)) (hk : PK X kws (tMs X.K c fk)) (n0 : (backToKw pos (keywordEach kws X.env)).all (·.1.isSome) = true := by rfl)
    (nk : (backToKw pos (keywordEach kws X.env)).filterMap (·.1) = ks := by rfl) (n1 : (x == ("__debug__" : Str)) = false := by decide)
    (n3 : ((backTo pos (starEach [] X.env)).any (·.1) || (backToKw pos (keywordEach kws X.env)).any (·.1.isNone)) = false := by rfl) : FE X c (.Call (.Name x p) [] kws pos) (mCallK φ (g D) mNil fk) := by
  constructor
  intro pins s σ H Q I h
  obtain ⟨S, env, ds, env', E, q, kk⟩ := t_callK (fa := mNil) hg σ H Q h
  cases q
  have h2 := kk S H [] E (Same.refl _) .nil
  apply wpAny_Call_Name_kw
  apply ld_glob I gl hm _ n1
  apply PySem.W.callWith_KW0 (h₀ := X.base) I.mod.kin kp n0 _ n3
  apply thn (hk.run pos pins s σ H _ I h2)
  rintro ws s2 ⟨zs, H2, J2, rz, q2⟩
  refine ⟨J2.kIn, ?_⟩
  rw [nk]
  have both : Vals (g V [] zs) (g Value [] ws) := kb.rel .nil rz
  have long : (g Value [] ws).length = ps.length := both.length.symm.trans (G.len _ _ _ _ q2)
  apply wpAny_call
  apply codeAny_mono (G.run X.A X.stack s2 H2 ⟨[], ks.zip ws⟩ _ _ Q E0 gu room J2.env0 (kb.to s2 [] ws J2.kIn long) both q2)
  intro r' s' q'
  have z := cr_in pass0 J2 q'
  cases r' with
  | error _ => exact z
  | ok fl => cases fl <;> first | exact z | exact False.elim z
end

/-! ## methods of one's own list -/
def sAppend (i : Nat) (fv : M D) : FS := fun e => match e[i]? with
  | some (.ow _ (.lst _)) => (match fv e with
    | some (d, e1) => (match e1[i]? with
      | some (.ow f (.lst ds)) => if ds.length < 1000000 then some (.nx (e1.set i (.ow f (.lst (ds ++ [d]))))) else none
      | _ => none)
    | none => none)
  | _ => none
/-- xs.pop() -/
def mPop (i : Nat) : M D := fun e => match e[i]? with
  | some (.ow f (.lst ds)) => (match ds[ds.length - 1]? with
    | some d => some (d, e.set i (.ow f (.lst ds.dropLast)))
    | none => none)
  | _ => none
theorem RelDs.dropLast {K : PySem.W.Frag} {S : Hp} {ds : List D} {vs : List V} (r : RelDs K S ds vs) : RelDs K S ds.dropLast vs.dropLast := by
  rw [List.dropLast_eq_take, List.dropLast_eq_take, r.length]
  exact r.take _
section
variable {X : Cx} {c : Ct} {e : Expr} {pos apos cpos px : Pos} {i : Nat} {x : Str} {fv : M D}
theorem big1000000 {n : Nat} (h : n < 1000000) : n < sizeLine := Nat.lt_of_lt_of_le h (by decide)
theorem fs_append (hi : PE X (.Name x px) (tVar i)) (hv : FE X c e fv) (hbase : attributeBase (.Name x px) "append" X.env (eval (.Name x px) X.env) = eval (.Name x px) X.env := by rfl)
    (hfew : ((backTo cpos (starEach [e] X.env)).all (fun x => !x.1) && (backToKw cpos (keywordEach [] X.env)).all (fun x => x.1.isSome) && decide (([e] : List Expr).length + ([] : List Keyword).length + (if ([] : List Keyword).isEmpty then 0 else 1) < 30)) = true := by rfl)
    (hline : (apos.endLine == cpos.line) = true := by rfl) (hs : starEach [e] X.env = (false, eval e X.env) :: starEach [] X.env := by rfl) (hpl : (backTo cpos (starEach ([] : List Expr) X.env)).any (·.1) = false := by rfl)
    (hsw : swapsWith (.Call (.Attribute (.Name x px) "append" apos) [e] [] cpos) none pos.line X.env = pure false := by rfl) : FSt X c (.Expr (.Call (.Attribute (.Name x px) "append" apos) [e] [] cpos) pos) (sAppend i fv) :=
  (ps_expr (pe_bm PySem.F.plainAttrs_list PySem.F.slot_list_append PySem.F.type_list_append (mt_append (X := X)) hi (pa_cons hv pa_nil hs) hbase hfew hline hs hpl) hsw).weak fun D' σ H ⟨S, env, o, E, e1, k⟩ => by
    unfold sAppend at e1
    split at e1
    · rename_i f0 ds0 q0
      split at e1
      · rename_i d e2 q
        split at e1
        · rename_i f ds q2
          split at e1
          · rename_i hl
            cases e1
            obtain ⟨p, a, ⟨vs0, hp0, _⟩, _, _⟩ := E.ow i f0 _ q0
            refine ⟨_, a, .inl ⟨rfl, vs0, .of hp0⟩, S, env, d, e2, E, q, fun S1 H1 v E1 s1 r1 => ?_⟩
            obtain ⟨p', a', ⟨vs, hp, rs⟩, z, w⟩ := E1.ow i f _ q2
            rw [a] at a'; cases a'
            refine ⟨p, vs, v, rfl, rfl, hp, by rw [← rs.length]; exact big1000000 hl, ?_⟩
            exact k S1 _ σ (E1.chg q2 a (fun b hb => upd_ne hb) ⟨_, upd_same, rs.append (.cons r1 .nil)⟩) s1
          · cases e1
        · cases e1
      · cases e1
    · cases e1
theorem f_pop (hi : PE X (.Name x px) (tVar i)) (hbase : attributeBase (.Name x px) "pop" X.env (eval (.Name x px) X.env) = eval (.Name x px) X.env := by rfl) (hline : (apos.endLine == cpos.line) = true := by rfl) : FE X c (.Call (.Attribute (.Name x px) "pop" apos) [] [] cpos) (mPop i) :=
  (pe_bm0 PySem.F.plainAttrs_list PySem.F.slot_list_pop PySem.F.type_list_pop (mt_pop (X := X)) hi hbase hline).weak fun σ H Q ⟨S, env, d, env', E, e1, k⟩ => by
    unfold mPop at e1
    split at e1
    · rename_i f ds q
      split at e1
      · rename_i d' qd
        cases e1
        obtain ⟨p, a, ⟨vs, hp, rs⟩, z, w⟩ := E.ow i f _ q
        obtain ⟨v, hv, rv⟩ := rs.get qd
        refine ⟨_, a, .inl ⟨rfl, vs, .of hp⟩, p, vs, v, rfl, rfl, hp, by rw [← rs.length]; exact hv, ?_⟩
        exact k S _ v (E.chg q a (fun b hb => upd_ne hb) ⟨_, upd_same, rs.dropLast⟩) (Same.refl _) rv
      · cases e1
    · cases e1
end

/-! ## a new object that is let go at once -/
theorem ER.adopt {K : PySem.W.Frag} {L : Nat → Option Addr} {S0 H0 S H : Hp} {σ : L2.St} {env : En} {p : Addr} {d : D} (E : ER K L S0 H0 S H σ env) (o : OwnAt K S H d p) (hS : S p = none) (hH : H0 p = none) (hn : ∀ (j : Nat) (f : Bool) (e : D), env[j]? = some (.ow f e) → σ[j]? ≠ some (some (.ref p))) :
    ∃ S', ER K L S0 H0 S' H σ env ∧ Same S S' ∧ RelD K S' d (.ref p) := by
  cases eo : H p with
  | none => exact absurd eo o.there
  | some ob =>
    have e2 : Same S (upd S p ob) := same_upd hS
    refine ⟨upd S p ob, ⟨fun b u q => ?_, E.len, fun i d q => ?_, fun i f d q => ?_, E.dis, fun b u q => e2 b u (E.s0 b u q), E.dom, E.kep, fun b q => ?_, E.lnt, E.lsd⟩, e2, ?_⟩
    · by_cases hb : b = p
      · subst hb; rw [upd_same] at q; rw [eo]; exact q
      · rw [upd_ne hb] at q; exact E.sub b u q
    · obtain ⟨v, a, r⟩ := E.sh i d q
      exact ⟨v, a, r.mono e2⟩
    · obtain ⟨a, x, y, z, w⟩ := E.ow i f d q
      exact ⟨a, x, y.mono e2 rfl, by rw [upd_ne (fun z => by subst z; exact hn i f d q x)]; exact z, w⟩
    · by_cases hb : b = p
      · subst hb; exact .inr hH
      · rw [upd_ne hb] at q; exact E.frs b q
    · cases d <;> first | exact o.elim | skip
      · obtain ⟨vs, q, r⟩ := o
        rw [eo] at q; cases q
        exact .lst upd_same (r.mono e2)
      · obtain ⟨vs, q, r⟩ := o
        rw [eo] at q; cases q
        exact .dic upd_same (r.mono e2)
      · obtain ⟨dx, vs, q, r⟩ := o
        rw [eo] at q; cases q
        exact .obj upd_same (r.mono e2)
theorem fo_sh {X : Cx} {c : Ct} {e : Expr} {f : M D} (h : FO X c e f) : FE X c e f := h.weak fun σ H Q ⟨S, env, d, env', E, e1, k⟩ => ⟨S, env, d, env', E, e1, fun S1 H1 p E1 s1 o z n fr => by
  obtain ⟨S2, E2, s2, r⟩ := ER.adopt E1 o z n fr
  exact k S2 H1 _ E2 (s1.trans s2) r⟩
end FL

set_option Elab.async false
set_option linter.all false
set_option maxRecDepth 100000
set_option maxHeartbeats 2000000
namespace FL
open PySem PySem.Spec PyProof.Rows L2
/-! ## for the reckoning -/
theorem cMul_ok {a b : Int} (k j : Nat) (h1 : Builtin.Int.intBits a ≤ k) (h2 : Builtin.Int.intBits b ≤ j) (h : k + j ≤ 134217728) : cMul a b = true := chk_yes (by omega)
theorem cPow_ok {a : Int} {n : Int} (k N : Nat) (h1 : Builtin.Int.intBits a ≤ k) (h0 : 0 ≤ n) (h2 : n ≤ N) (hk : k * N ≤ 134217728) : cPow a n = true := by
  refine chk_yes ⟨h0, ?_⟩
  have h3 : (Builtin.Int.intBits a : Int) * n ≤ (k : Int) * (N : Int) := Int.mul_le_mul (by omega) h2 h0 (by omega)
  have h4 : (k : Int) * (N : Int) = ((k * N : Nat) : Int) := by push_cast; rfl
  have h5 : (2 : Int) ^ 27 = 134217728 := by decide
  rw [h5]
  omega
theorem b64 {a : Int} (h : a.natAbs < 18446744073709551616) : Builtin.Int.intBits a ≤ 64 := PyProof.Rows.intBits_le (k := 64) h
theorem sq_bitsK {e m : Int} {k : Nat} (hk : 31 ≤ k) (he : Builtin.Int.intBits e ≤ k) (h0 : 0 ≤ m) (h1 : m < 4503599627370496) : Builtin.Int.intBits (m + e * e + 31) ≤ (k + k) + 1 := by
  have a1 : e.natAbs < 2 ^ k := Nat.lt_of_lt_of_le (PyProof.Rows.natAbs_lt_pow_bits e) (Nat.pow_le_pow_right (by decide) he)
  have a2 : e.natAbs * e.natAbs < 2 ^ k * 2 ^ k := Nat.mul_lt_mul'' a1 a1
  rw [← Nat.pow_add] at a2
  have a3 : (4611686018427387904 : Nat) ≤ 2 ^ (k + k) := by
    have : (4611686018427387904 : Nat) = 2 ^ 62 := by decide
    rw [this]
    exact Nat.pow_le_pow_right (by decide) (by omega)
  have a4 : (e * e).natAbs = e.natAbs * e.natAbs := Int.natAbs_mul e e
  refine PyProof.Rows.intBits_le ?_
  rw [Nat.pow_succ]
  generalize 2 ^ (k + k) = B at a2 a3 ⊢
  omega
theorem sq_bits {e m : Int} (he : Builtin.Int.intBits e ≤ 1048576) (h0 : 0 ≤ m) (h1 : m < 4503599627370496) : Builtin.Int.intBits (m + e * e + 31) ≤ 2097153 := sq_bitsK (by decide) he h0 h1
theorem atI_of {α : Type} {xs : List α} {r : Int} (h0 : 0 ≤ r) (h1 : r < xs.length) : ∃ x, atI xs r = some x ∧ x ∈ xs := by
  have hl : r.toNat < xs.length := by omega
  refine ⟨xs[r.toNat], ?_, List.getElem_mem hl⟩
  unfold atI ixN
  rw [if_pos h0, if_pos h1]
  exact List.getElem?_eq_getElem hl
theorem loop_nx {set : FG} {body : FS} (I : En → Prop) : ∀ (ds : List D), (∀ d ∈ ds, ∀ e, I e → ∃ e1 e2, set d e = some e1 ∧ body e1 = some (.nx e2) ∧ I e2) → ∀ e, I e → ∃ e', loopF set body ds e = some (.nx e') ∧ I e'
  | [], _, e, h => ⟨e, rfl, h⟩
  | d :: ds, st, e, h => by
    obtain ⟨e1, e2, q1, q2, h2⟩ := st d List.mem_cons_self e h
    obtain ⟨e3, q3, h3⟩ := loop_nx I ds (fun d hd => st d (List.mem_cons_of_mem _ hd)) e2 h2
    refine ⟨e3, ?_, h3⟩
    unfold loopF
    rw [q1]
    show (match body e1 with
      | some (.nx e2) => loopF set body ds e2
      | some (.ct e2) => loopF set body ds e2
      | some (.bk e2) => some (.nx e2)
      | some (.rt d e2) => some (.rt d e2)
      | some (.ro d e2) => some (.ro d e2)
      | none => none) = _
    rw [q2]
    exact q3
theorem mem_upTo {n : Nat} {d : D} (h : d ∈ upTo n) : ∃ i : Nat, i < n ∧ d = .int i := by
  unfold upTo at h
  obtain ⟨i, hi, rfl⟩ := List.mem_map.mp h
  exact ⟨i, by simpa using hi, rfl⟩
/-- a sack of draws -/
def Sack (d m : Int) : D := .dic [(.inr "digits", .int d), (.inr "mixed", .int m)]
theorem kne : ¬ (Str.ofString "digits" = Str.ofString "mixed") := by decide +kernel
theorem kne' : ¬ (Str.ofString "mixed" = Str.ofString "digits") := by decide +kernel
theorem getD1 (d m : Int) : getK [(.inr "digits", .int d), (.inr "mixed", .int m)] (.inr "digits") = some (.int d) := by
  simp [getK]
theorem getM1 (d m : Int) : getK [(.inr "digits", .int d), (.inr "mixed", .int m)] (.inr "mixed") = some (.int m) := by
  simp [getK, kne]
theorem putD1 (d m : Int) (x : D) : putKD [(.inr "digits", .int d), (.inr "mixed", .int m)] (.inr "digits") x = [(.inr "digits", x), (.inr "mixed", .int m)] := by
  simp [putKD, kne']
theorem putM1 (d m : Int) (x : D) : putKD [(.inr "digits", .int d), (.inr "mixed", .int m)] (.inr "mixed") x = [(.inr "digits", .int d), (.inr "mixed", x)] := by
  simp [putKD, kne]
/-- what is known of a sack -/
structure SackOk (d m : Int) : Prop where
  d0 : 0 ≤ d
  m0 : 0 ≤ m
  m1 : m < 4294967296
/-- a def that draws: a number below the size -/
def Draws (φ : Fn) : Prop := ∀ (d m s : Int), SackOk d m → 0 < s → s < 1073741824 → ∃ r d' m', φ [.ow false (Sack d m), .sh (.int s)] = some (.int r, [.ow false (Sack d' m'), .un]) ∧ 0 ≤ r ∧ r < s ∧ SackOk d' m'
/-- a def that chooses an item -/
def Chooses (φ : Fn) : Prop := ∀ (d m : Int) (xs : List D), SackOk d m → xs ≠ [] → xs.length < 1000000 → ∃ x d' m', φ [.ow false (Sack d m), .sh (.lst xs)] = some (x, [.ow false (Sack d' m'), .un]) ∧ x ∈ xs ∧ SackOk d' m'
/-- a def that makes a sack out of the script -/
def MakesSack (φ : Fn) : Prop := ∀ (ns : List Int) (st : Int), (∀ z ∈ ns, Builtin.Int.intBits z ≤ 1048576) → 0 ≤ st → st ≤ 100 → ∃ d m e', φ [.sh (.scr ns), .sh (.int st)] = some (Sack d m, e') ∧ SackOk d m
end FL
namespace FL
theorem lentS_un : lentS .un = false := rfl
theorem lentS_sh {d : D} : lentS (.sh d) = false := rfl
theorem lentS_owt {d : D} : lentS (.ow true d) = false := rfl
end FL

set_option Elab.async false
set_option linter.all false
set_option maxRecDepth 100000
set_option maxHeartbeats 2000000
namespace FL
open PySem PySem.Spec PyProof.Rows L2
/-! ## what may be shown -/
mutual
def smD : D → Prop
  | .int i => i.natAbs < 10 ^ 60
  | .str x => ∀ c ∈ x.cps.toList, c < 16 ^ 8
  | .lst xs => smDs xs
  | .tup xs => smDs xs
  | .dic xs => xs = []
  | .obj _ _ => False
  | .scr _ => False
  | .kls _ => False
  | .non => True
  | .bl _ => True
def smDs : List D → Prop
  | [] => True
  | x :: xs => smD x ∧ smDs xs
end
mutual
def bkD : D → Nat
  | .str x => x.cps.size
  | .lst xs => bkDs xs
  | .tup xs => bkDs xs
  | _ => 0
def bkDs : List D → Nat
  | [] => 0
  | x :: xs => bkD x + 1 + bkDs xs
end
mutual
def dpD : D → Nat
  | .lst xs => dpDs xs + 1
  | .tup xs => dpDs xs + 1
  | .dic _ => 1
  | _ => 0
def dpDs : List D → Nat
  | [] => 0
  | x :: xs => max (dpD x) (dpDs xs)
end
mutual
def noDic : D → Bool
  | .lst xs => noDics xs
  | .tup xs => noDics xs
  | .dic _ => false
  | _ => true
def noDics : List D → Bool
  | [] => true
  | x :: xs => noDic x && noDics xs
end
structure PShow (d : D) (p : PyData) : Prop where
  t : toP d = some p
  sh : p.showable = true
  lv : p.leavesShort 64 = true
  bk : p.bulk = bkD d
  dp : p.depth = dpD d
  nd : noDic d = true → p.hasDict = false
structure PShows (d : List D) (p : List PyData) : Prop where
  t : toPs d = some p
  sh : PyData.showableAll p = true
  lv : PyData.leavesShortAll 64 p = true
  bk : PyData.bulkAll p = bkDs d
  dp : PyData.depthAll p = dpDs d
  nd : noDics d = true → PyData.hasDictAll p = false
mutual
theorem show_of : ∀ d : D, smD d → ∃ p, PShow d p
  | .non, _ => ⟨.none, rfl, rfl, rfl, rfl, rfl, fun _ => rfl⟩
  | .bl b, _ => ⟨.bool b, rfl, rfl, rfl, rfl, rfl, fun _ => rfl⟩
  | .int i, h => by
    have h' : i.natAbs < 10 ^ 60 := h
    refine ⟨.int i, rfl, ?_, ?_, rfl, rfl, fun _ => rfl⟩
    · have : i.natAbs < 2 ^ 1920 := Nat.lt_of_lt_of_le h' (Nat.le_trans (by decide : 10 ^ 60 ≤ 2 ^ 200) (Nat.pow_le_pow_right (by decide) (by decide)))
      simp only [PyData.showable, decide_eq_true_eq]
      exact log2_small this
    · have e : (toString i).length ≤ 60 + 1 := int_text_length_le10 (k := 60) (by decide) h'
      simp only [PyData.leavesShort, decide_eq_true_eq]
      show (Str.ofString (toString i)).length ≤ 64
      rw [PySem.ofString_length]
      omega
  | .str x, h => ⟨.str x, rfl, rfl, by simp only [PyData.leavesShort, List.all_eq_true, decide_eq_true_eq]; exact h, rfl, rfl, fun _ => rfl⟩
  | .lst xs, h => by
    obtain ⟨ps, t, a, b, c, d, e⟩ := shows_of xs h
    exact ⟨.list ps, by simp only [toP, t], by simpa only [PyData.showable] using a, by simpa only [PyData.leavesShort] using b, by simpa only [PyData.bulk, bkD] using c, by simp only [PyData.depth, dpD, d], fun z => by simp only [PyData.hasDict]; exact e (by simpa only [noDic] using z)⟩
  | .tup xs, h => by
    obtain ⟨ps, t, a, b, c, d, e⟩ := shows_of xs h
    exact ⟨.tuple ps, by simp only [toP, t], by simpa only [PyData.showable] using a, by simpa only [PyData.leavesShort] using b, by simpa only [PyData.bulk, bkD] using c, by simp only [PyData.depth, dpD, d], fun z => by simp only [PyData.hasDict]; exact e (by simpa only [noDic] using z)⟩
  | .dic xs, h => by
    have h' : xs = [] := h
    subst h'
    exact ⟨.dict [], rfl, rfl, rfl, rfl, rfl, fun z => by cases z⟩
  | .obj _ _, h => h.elim
  | .scr _, h => h.elim
  | .kls _, h => h.elim
theorem shows_of : ∀ d : List D, smDs d → ∃ p, PShows d p
  | [], _ => ⟨[], rfl, rfl, rfl, rfl, rfl, fun _ => rfl⟩
  | x :: xs, h => by
    obtain ⟨h1, h2⟩ := h
    obtain ⟨p, t, a, b, c, d, e⟩ := show_of x h1
    obtain ⟨ps, t', a', b', c', d', e'⟩ := shows_of xs h2
    refine ⟨p :: ps, by simp only [toPs, t, t'], by simp only [PyData.showableAll, a, a', Bool.and_self], by simp only [PyData.leavesShortAll, b, b', Bool.and_self], by simp only [PyData.bulkAll, bkDs, c, c'], by simp only [PyData.depthAll, dpDs, d, d'], fun z => ?_⟩
    have z' : noDic x = true ∧ noDics xs = true := by simpa only [noDics, Bool.and_eq_true] using z
    simp only [PyData.hasDictAll, e z'.1, e' z'.2, Bool.or_self]
end
/-- it may be shown -/
structure Rp (d : D) : Prop where
  sm : smD d
  bk : bkD d ≤ 100000
  dp : dpD d ≤ 60
noncomputable def shT (d : D) : Str := match toP d with
  | some p => p.shown
  | none => Str.empty
theorem rp_ok {d : D} (h : Rp d) : gRepr d = some (.str (shT d)) := by
  obtain ⟨p, t, a, b, c, e, f⟩ := show_of d h.sm
  have ok : reprOk d p = true := by
    refine chk_yes ⟨a, by rw [e]; exact h.dp, ?_⟩
    have k := PyData.shown_le_bulk 64 (by decide) p b
    rw [c] at k
    have := h.bk
    have z : (6606592 : Nat) ≤ sizeLine := by decide
    omega
  unfold gRepr shT
  rw [t]
  show (bif reprOk d p then some (shownD p) else none) = _
  rw [ok]
  rfl
theorem ne_same (s : Str) : gNe (.str s) (.str s) = some (.bl false) := by
  show some (D.bl (!decide (s = s))) = _
  rw [decide_eq_true rfl]
  rfl
theorem eq_same (s : Str) : gEq (.str s) (.str s) = some (.bl true) := by
  show some (D.bl (decide (s = s))) = _
  rw [decide_eq_true rfl]
end FL
namespace FL
open PySem PySem.Spec PyProof.Rows L2
theorem smI {i : Int} (h0 : -1000000000000000000 < i) (h1 : i < 1000000000000000000) : i.natAbs < 10 ^ 60 := Nat.lt_of_lt_of_le (by omega : i.natAbs < 1000000000000000000) (by decide)
theorem eqI (i j : Int) : gEq (.int i) (.int j) = some (.bl (decide (i = j))) := by
  show gEqD (.int i) (.int j) = _
  unfold gEqD
  show (bif eqOk (.int i) (.int j) then some (D.bl (PyData.eqv (.int i) (.int j))) else none) = _
  have e : eqOk (.int i) (.int j) = true := chk_yes ⟨rfl, rfl⟩
  rw [e]
  show some (D.bl (PyData.eqv (.int i) (.int j))) = _
  rfl
theorem neI (i j : Int) : gNe (.int i) (.int j) = some (.bl (!decide (i = j))) := by
  show gNeD (.int i) (.int j) = _
  unfold gNeD
  show (bif eqOk (.int i) (.int j) then some (D.bl (!PyData.eqv (.int i) (.int j))) else none) = _
  have e : eqOk (.int i) (.int j) = true := chk_yes ⟨rfl, rfl⟩
  rw [e]
  show some (D.bl (!PyData.eqv (.int i) (.int j))) = _
  rfl
end FL

set_option Elab.async false
set_option linter.all false
set_option maxRecDepth 100000
set_option maxHeartbeats 2000000
namespace FL
open PySem PySem.Spec PyProof.Rows L2
/-! ## comprehensions -/
def isOw : Sl → Bool
  | .ow _ _ => true
  | _ => false
def wipeE : List Nat → En → En
  | [], e => e
  | i :: r, e => (wipeE r e).set i .un
/-- the block's own slots are nobody's objects -/
def freeE (vs : List Nat) (e : En) : Bool := vs.all fun i => match e[i]? with
  | some s => !isOw s
  | none => false
def backCS : Sl → Sl → Sl
  | .ow f _, .ow _ d => .ow f d
  | s, _ => s
def backC (e e2 : En) : En := List.zipWith backCS e e2
/-- a test, or none -/
def mYes : M Bool := fun e => some (true, e)
def compF (vs : List Nat) (set : FG) (t : M Bool) (el : M D) : List D → En → Option (List D × En)
  | [], e => some ([], e)
  | d :: r, e => bif freeE vs e then (match set d (wipeE vs (lend e)) with
    | some e1 => (match t e1 with
      | some (b, e2) => bif b then (match el e2 with
          | some (x, e3) => (match compF vs set t el r (backC e e3) with
            | some (xs, e4) => some (x :: xs, e4)
            | none => none)
          | none => none) else compF vs set t el r (backC e e2)
      | none => none)
    | none => none) else none
def cLen (n : Nat) : Bool := decide (n ≤ 1000000)
def mCompL (f : M D) (set : FG) (t : M Bool) (el : M D) (vs : List Nat) : M D := fun e => match f e with
  | some (d, e1) => (match itemsD d with
    | some ds => (match compF vs set t el ds e1 with
      | some (xs, e2) => bif cLen xs.length then some (.lst xs, e2) else none
      | none => none)
    | none => none)
  | none => none
def mCompR (f : M (List D)) (set : FG) (t : M Bool) (el : M D) (vs : List Nat) : M D := fun e => match f e with
  | some ([.int j], e1) => bif rgOk j then (match compF vs set t el (upTo j.toNat) e1 with
      | some (xs, e2) => bif cLen xs.length then some (.lst xs, e2) else none
      | none => none) else none
  | _ => none
section
variable {K : PySem.W.Frag} {L : Nat → Option Addr} {S0 H0 S H S' H' : Hp} {σ σ2 : L2.St} {env e2 : En}
theorem ER.wipe1 (E : ER K L S0 H0 S H σ env) {i : Nat} (hL : ∀ p, L i ≠ some p) : ER K L S0 H0 S H (σ.set i none) (env.set i .un) := by
  have slot : ∀ (j : Nat) (s : Sl), (env.set i Sl.un)[j]? = some s → s = .un ∨ (j ≠ i ∧ env[j]? = some s) := fun j s q => by
    by_cases hj : j = i
    · subst hj
      rw [List.getElem?_set] at q
      rw [if_pos rfl] at q
      split at q <;> cases q
      exact .inl rfl
    · rw [List.getElem?_set_ne (Ne.symm hj)] at q; exact .inr ⟨hj, q⟩
  refine ⟨E.sub, by simp [E.len], fun j d q => ?_, fun j f d q => ?_, fun j k f g d e p hjk q1 q2 q3 => ?_, E.s0, E.dom, E.kep, E.frs, fun j p q => ?_, E.lsd⟩
  · rcases slot j _ q with q | ⟨hj, q⟩
    · cases q
    · rw [List.getElem?_set_ne (Ne.symm hj)]; exact E.sh j d q
  · rcases slot j _ q with q | ⟨hj, q⟩
    · cases q
    · rw [List.getElem?_set_ne (Ne.symm hj)]; exact E.ow j f d q
  · rcases slot j _ q1 with q1 | ⟨h1, q1⟩
    · cases q1
    · rcases slot k _ q2 with q2 | ⟨h2, q2⟩
      · cases q2
      · rw [List.getElem?_set_ne (Ne.symm h1)] at q3
        rw [List.getElem?_set_ne (Ne.symm h2)]
        exact E.dis j k f g d e p hjk q1 q2 q3
  · have hj : j ≠ i := fun z => by subst z; exact hL p q
    rw [List.getElem?_set_ne (Ne.symm hj), List.getElem?_set_ne (Ne.symm hj)]
    exact E.lnt j p q
theorem ER.wipes : ∀ (vs : List Nat) {σ : L2.St} {env : En}, ER K L S0 H0 S H σ env → (∀ i ∈ vs, ∀ p, L i ≠ some p) → ER K L S0 H0 S H (wipe σ vs) (wipeE vs env)
  | [], _, _, E, _ => E
  | i :: r, σ, env, E, h => (ER.wipes r E fun j hj => h j (List.mem_cons_of_mem _ hj)).wipe1 (h i List.mem_cons_self)
theorem lentOf_free {vs : List Nat} (h : freeE vs env = true) : ∀ i ∈ vs, ∀ p, lentOf σ env i ≠ some p := by
  intro i hi p z
  obtain ⟨f, d, a, _⟩ := lentOf_some z
  have := List.all_eq_true.mp h i hi
  rw [a] at this
  simp [isOw] at this
theorem ER.unbaseC (E : ER K L S0 H0 S H σ env) (E2 : ER K (lentOf σ env) S H S' H' σ2 e2) (hl : env.length = e2.length) : ER K L S0 H0 S' H' σ (backC env e2) := by
  have h0 : ∀ b, H b = none → H0 b = none := fun b q => by
    cases e : H0 b with
    | none => rfl
    | some o => exact absurd q (E.dom b (by rw [e]; exact fun z => nomatch z))
  have get : ∀ (i : Nat) (s : Sl), (backC env e2)[i]? = some s → ∃ a b, env[i]? = some a ∧ e2[i]? = some b ∧ s = backCS a b := fun i s h => by
    unfold backC at h
    rw [List.getElem?_zipWith] at h
    cases ea : env[i]? with
    | none => rw [ea] at h; cases h
    | some a =>
      cases eb : e2[i]? with
      | none => rw [ea, eb] at h; cases h
      | some b => rw [ea, eb] at h; cases h; exact ⟨a, b, rfl, rfl, rfl⟩
  have own : ∀ (i : Nat) (f : Bool) (d : D), (backC env e2)[i]? = some (.ow f d) → ∃ p d0, env[i]? = some (.ow f d0) ∧ σ[i]? = some (some (.ref p)) ∧ σ2[i]? = some (some (.ref p)) ∧ e2[i]? = some (.ow false d) := fun i f d q => by
    obtain ⟨a, b, ha, hb, e⟩ := get i _ q
    cases a with
    | un => cases e
    | sh _ => cases e
    | ow f0 d0 =>
      obtain ⟨p, x, y, z, w⟩ := E.ow i f0 d0 ha
      have hl' : lentOf σ env i = some p := by unfold lentOf; rw [ha, x]
      obtain ⟨x2, d2, b2⟩ := E2.lnt i p hl'
      rw [b2] at hb; cases hb
      cases e
      exact ⟨p, d0, ha, x, x2, b2⟩
  refine ⟨E2.sub, by unfold backC; rw [List.length_zipWith, ← hl, Nat.min_self]; exact E.len, fun i d q => ?_, fun i f d q => ?_, fun i j f g d e p hij q1 q2 q3 => ?_, E.s0.trans E2.s0, fun b q => E2.dom b (E.dom b q), fun b o q hn => ?_, fun b q => ?_, fun i p q => ?_, E.lsd⟩
  · obtain ⟨a, b, ha, hb, e⟩ := get i _ q
    cases a with
    | un => cases e
    | sh d' =>
      cases e
      obtain ⟨v, x, r⟩ := E.sh i d ha
      exact ⟨v, x, r.mono E2.s0⟩
    | ow f0 d0 => cases b <;> cases e
  · obtain ⟨p, d0, ha, x, x2, b2⟩ := own i f d q
    obtain ⟨p', x', y', z', w'⟩ := E2.ow i false d b2
    rw [x2] at x'; cases x'
    obtain ⟨p'', x'', _, _, w''⟩ := E.ow i f d0 ha
    rw [x] at x''; cases x''
    exact ⟨p, x, y', z', w''⟩
  · obtain ⟨p1, d1, ha1, x1, y1, b1⟩ := own i f d q1
    obtain ⟨p2, d2, ha2, x2, y2, b2⟩ := own j g e q2
    exact E.dis i j f g d1 d2 p hij ha1 ha2 q3
  · refine E2.kep b o (E.kep b o q hn) fun i z => ?_
    obtain ⟨f, d, a, x⟩ := lentOf_some z
    obtain ⟨p', x', _, _, w⟩ := E.ow i f d a
    rw [x] at x'; cases x'
    cases f with
    | true => rw [if_pos rfl] at w; rw [w] at q; cases q
    | false => rw [if_neg (by decide)] at w; exact hn i w
  · rcases E2.frs b q with z | z
    · exact E.frs b z
    · exact .inr (h0 b z)
  · obtain ⟨x, d, a⟩ := E.lnt i p q
    refine ⟨x, ?_⟩
    have hl' : lentOf σ env i = some p := by unfold lentOf; rw [a, x]
    obtain ⟨_, d', b⟩ := E2.lnt i p hl'
    refine ⟨d', ?_⟩
    unfold backC
    rw [List.getElem?_zipWith, a, b]
    rfl
/-- an object that is nobody's yet is changed -/
theorem ER.side (E : ER K L S0 H0 S H σ env) {p : Addr} {o : HO} (hS : S p = none) (h0 : H0 p = none) (hn : ∀ (j : Nat) (f : Bool) (e : D), env[j]? = some (.ow f e) → σ[j]? ≠ some (some (.ref p))) : ER K L S0 H0 S (upd H p o) σ env := by
  refine ⟨fun b u q => ?_, E.len, E.sh, fun i f d q => ?_, E.dis, E.s0, fun b q => ?_, fun b u q hl => ?_, E.frs, E.lnt, E.lsd⟩
  · rw [upd_ne (fun z => by subst z; rw [hS] at q; cases q)]; exact E.sub b u q
  · obtain ⟨a, x, y, z, w⟩ := E.ow i f d q
    exact ⟨a, x, y.mono (Same.refl _) (upd_ne fun z => by subst z; exact hn i f d q x), z, w⟩
  · by_cases hb : b = p
    · subst hb; exact absurd h0 q
    · rw [upd_ne hb]; exact E.dom b q
  · rw [upd_ne (fun z => by subst z; rw [h0] at q; cases q)]; exact E.kep b u q hl
end
theorem wipeE_len : ∀ (vs : List Nat) (e : En), (wipeE vs e).length = e.length
  | [], _ => rfl
  | i :: r, e => by
    show ((wipeE r e).set i .un).length = _
    rw [List.length_set, wipeE_len r]
theorem wipe_comm {σ : L2.St} {i : Nat} {x : Option V} : ∀ {vs : List Nat}, i ∉ vs → wipe (σ.set i x) vs = (wipe σ vs).set i x
  | [], _ => rfl
  | j :: r, h => by
    have hij : i ≠ j := fun z => h (by subst z; exact List.mem_cons_self)
    show (wipe (σ.set i x) r).set j none = ((wipe σ r).set j none).set i x
    rw [wipe_comm fun z => h (List.mem_cons_of_mem _ z), List.set_comm _ _ hij]
theorem wipe_set {σ : L2.St} {i : Nat} {x : Option V} : ∀ {vs : List Nat}, i ∈ vs → wipe (σ.set i x) vs = wipe σ vs
  | j :: r, h => by
    show (wipe (σ.set i x) r).set j none = (wipe σ r).set j none
    by_cases hr : i ∈ r
    · rw [wipe_set hr]
    · rcases List.mem_cons.mp h with z | z
      · subst z
        rw [wipe_comm hr, List.set_set]
      · exact absurd z hr
theorem wipe_self {σ : L2.St} : ∀ {us vs : List Nat}, (∀ i ∈ us, i ∈ vs) → wipe (wipe σ us) vs = wipe σ vs
  | [], _, _ => rfl
  | i :: r, vs, h => by
    show wipe ((wipe σ r).set i none) vs = _
    rw [wipe_set (h i List.mem_cons_self), wipe_self fun j hj => h j (List.mem_cons_of_mem _ hj)]
/-! ### the target's slots -/
/-- what a target does to the slots, by values: it changes none but vs -/
def TgOk (X : Cx) (vs : List Nat) (tg : Expr) (set : FG) (g : TG) : Prop := PG X tg g ∧ ∀ (c : Ct) (S H : Hp) (σ : L2.St) (env e' : En) (d : D) (v : V) (Q : L2.St → Hp → Prop), Er X.K c S H σ env → RelD X.K S d v → set d env = some e' →
  (∀ σ', Er X.K c S H σ' e' → wipe σ' vs = wipe σ vs → Q σ' H) → g v σ H Q
section
variable {X : Cx} {pos : Pos} {vs : List Nat}
theorem tg_name {i : Nat} {x : Str} (h : PG X (.Name x pos) (gName i)) (hi : i ∈ vs) : TgOk X vs (.Name x pos) (gSet i) (gName i) :=
  ⟨h, fun c S H σ env e' d v Q E r q k => k _ (gSet_ok E q r) (wipe_set hi)⟩
def gNames : List Nat → TGs
  | [] => gNil
  | i :: r => gCons (gName i) (gNames r)
theorem gNames_ok {K : PySem.W.Frag} {c : Ct} {S H : Hp} {Q : L2.St → Hp → Prop} : ∀ (is : List Nat) (ds : List D) (us : List V) (σ : L2.St) (env e' : En), (∀ i ∈ is, i ∈ vs) → Er K c S H σ env → RelDs K S ds us → gSets (is.map gSet) ds env = some e' →
    (∀ σ', Er K c S H σ' e' → wipe σ' vs = wipe σ vs → Q σ' H) → gNames is us σ H Q
  | [], [], us, σ, env, e', _, E, rs, q, k => by
    cases rs
    cases q
    exact ⟨rfl, k σ E rfl⟩
  | [], _ :: _, _, _, _, _, _, _, _, q, _ => by cases q
  | _ :: _, [], _, _, _, _, _, _, _, q, _ => by cases q
  | i :: is, d :: ds, us, σ, env, e', hv, E, rs, q, k => by
    cases rs with
    | cons r1 rs =>
      have q' : (match gSet i d env with
        | some e1 => gSets (is.map gSet) ds e1
        | none => none) = some e' := q
      split at q'
      · rename_i e1 q1
        refine ⟨_, _, rfl, ?_⟩
        refine gNames_ok is ds _ _ e1 e' (fun j hj => hv j (List.mem_cons_of_mem _ hj)) (gSet_ok E q1 r1) rs q' fun σ' E' w => k σ' E' ?_
        rw [w, wipe_set (hv i List.mem_cons_self)]
      · cases q'
theorem tg_tup {es : List Expr} {is : List Nat} {k n : Nat} (hc : X.calm = true) (h : PGs X es (gNames is)) (hl : is.length = n) (hi : ∀ i ∈ is, i ∈ vs) (hn : (assignEach es X.env).length = n := by rfl) (hst : (assignEach es X.env).findIdx? (·.1) = none := by rfl) :
    TgOk X vs (.Tuple es k pos) (gUn (is.map gSet)) (gTup X.K n (gNames is)) :=
  ⟨pg_tup hc h hn hst, fun c S H σ env e' d v Q E r q kk => by
    unfold gUn at q
    split at q
    · rename_i ds
      cases r with
      | tup ht rs =>
        refine ⟨_, _, rfl, sqT_same E.sub ht.sq, ?_, gNames_ok is ds _ σ env e' hi E rs q kk⟩
        rw [← rs.length, ← hl, gSets_len q, List.length_map]
    · cases q⟩
end
/-! ### the tests, the element: over any lent slots -/
def eT (K : PySem.W.Frag) (f : M Bool) : TT := fun σ H Q => ∃ c, tMT K c f σ H Q
def eE (K : PySem.W.Frag) (f : M D) : TE := fun σ H Q => ∃ c, tM K c f σ H Q
theorem eE_ok {X : Cx} {e : Expr} {f : M D} (h : ∀ c, FE X c e f) : PE X e (eE X.K f) := ⟨fun pins s σ H Q I ⟨c, q⟩ => (h c).run pins s σ H Q I q⟩
theorem eT_one {X : Cx} {e : Expr} {f : M Bool} (h : ∀ c, FT X c e f) : PTs X [e] (eT X.K f) := pts_one ⟨fun pins s σ H Q I ⟨c, q⟩ => (h c).run pins s σ H Q I q⟩
theorem eT_nil {X : Cx} : PTs X [] (eT X.K mYes) := ⟨fun pins s σ H Q I ⟨c, S, env, b, env', E, q, k⟩ => by
  cases q
  exact pts_nil.run pins s σ H Q I (k S H E (Same.refl _))⟩
/-- the comprehension's state at a turn -/
structure CS (K : PySem.W.Frag) (c : Ct) (S1 : Hp) (σ : L2.St) (Dd : Addr) (S H : Hp) (e : En) (xs : List D) (acc : List V) : Prop where
  E : Er K c S H σ e
  s : Same S1 S
  d : S Dd = none
  d0 : c.H0 Dd = none
  fr : ∀ (j : Nat) (f : Bool) (x : D), e[j]? = some (.ow f x) → σ[j]? ≠ some (some (.ref Dd))
  h : H Dd = some (.lst acc)
  r : RelDs K S xs acc
section
variable {K : PySem.W.Frag} {c : Ct} {S1 S H : Hp} {σ : L2.St} {Dd : Addr} {e : En} {xs : List D} {acc : List V} {vs : List Nat} {set : FG} {t : M Bool} {el : M D} {g : TG}
theorem backC_ow {e e2 : En} {j : Nat} {f : Bool} {x : D} (h : (backC e e2)[j]? = some (.ow f x)) : ∃ y, e[j]? = some (.ow f y) := by
  unfold backC at h
  rw [List.getElem?_zipWith] at h
  cases ea : e[j]? with
  | none => rw [ea] at h; cases h
  | some a =>
    cases eb : e2[j]? with
    | none => rw [ea, eb] at h; cases h
    | some b =>
      rw [ea, eb] at h
      cases a with
      | un => cases h
      | sh _ => cases h
      | ow f0 d0 => cases b <;> (cases h; exact ⟨_, rfl⟩)
/-- one turn of a comprehension -/
theorem comp_turn {ds ys : List D} {d : D} {v : V} {eF : En} (C : CS K c S1 σ Dd S H e xs acc) (rd : RelD K S d v) (q : compF vs set t el (d :: ds) e = some (ys, eF)) (hlen : xs.length + ys.length ≤ 1000000)
    (hg : ∀ (c : Ct) (S H : Hp) (σ : L2.St) (env e' : En) (d : D) (v : V) (Q : L2.St → Hp → Prop), Er K c S H σ env → RelD K S d v → set d env = some e' → (∀ σ', Er K c S H σ' e' → wipe σ' vs = wipe σ vs → Q σ' H) → g v σ H Q)
    (Pn : Hp → Prop) (nx : ∀ S2 H2 e2 xs2 acc2 ys2, CS K c S1 σ Dd S2 H2 e2 xs2 acc2 → compF vs set t el ds e2 = some (ys2, eF) → xs2 ++ ys2 = xs ++ ys → Pn H2) :
    g v (wipe σ vs) H fun σ2 H2 => wipe σ2 vs = wipe σ vs ∧ eT K t σ2 H2 fun b H3 => if b = true then eE K el σ2 H3 fun y H4 => ∃ acc, H4 Dd = some (.lst acc) ∧ acc.length < sizeLine ∧ Pn (upd H4 Dd (.lst (acc ++ [y]))) else Pn H3 := by
  unfold compF at q
  cases hf : freeE vs e with
  | false => rw [hf] at q; cases q
  | true =>
    rw [hf] at q
    have q' : (match set d (wipeE vs (lend e)) with
      | some e1 => (match t e1 with
        | some (b, e2) => bif b then (match el e2 with
            | some (x, e3) => (match compF vs set t el ds (backC e e3) with
              | some (xs, e4) => some (x :: xs, e4)
              | none => none)
            | none => none) else compF vs set t el ds (backC e e2)
        | none => none)
      | none => none) = some (ys, eF) := q
    have E1 := ER.wipes vs C.E.rebase (lentOf_free hf)
    have nlen : ∀ {e2 : En} {σ2 : L2.St} {S2 H2 : Hp}, ER K (lentOf σ e) S H S2 H2 σ2 e2 → wipe σ2 vs = wipe σ vs → e.length = e2.length := fun {e2 σ2 S2 H2} E2 w => by
      have h1 := congrArg List.length w
      rw [wipe_length, wipe_length] at h1
      rw [C.E.len, ← h1, E2.len]
    -- what stands behind work that keeps the block's slots
    have fin : ∀ {e2 : En} {σ2 : L2.St} {S2 H2 : Hp}, ER K (lentOf σ e) S H S2 H2 σ2 e2 → wipe σ2 vs = wipe σ vs → CS K c S1 σ Dd S2 H2 (backC e e2) xs acc := fun {e2 σ2 S2 H2} E2 w => by
      refine ⟨ER.unbaseC C.E E2 (nlen E2 w), C.s.trans E2.s0, ?_, C.d0, fun j f x z => ?_, E2.kep Dd _ C.h fun i z => ?_, C.r.mono E2.s0⟩
      · cases e0 : S2 Dd with
        | none => rfl
        | some o =>
          rcases E2.frs Dd (by rw [e0]; exact fun z => nomatch z) with z | z
          · exact absurd C.d z
          · rw [C.h] at z; cases z
      · obtain ⟨y, z⟩ := backC_ow z
        exact C.fr j f y z
      · obtain ⟨f, d0, a, b⟩ := lentOf_some z
        exact C.fr i f d0 a b
    split at q'
    · rename_i e1 q1
      refine hg ⟨lentOf σ e, S, H⟩ S H (wipe σ vs) _ e1 d v _ E1 rd q1 fun σ2 E2 w2 => ?_
      have w2' : wipe σ2 vs = wipe σ vs := by rw [w2, wipe_self fun _ h => h]
      refine ⟨w2', ⟨lentOf σ e, S, H⟩, S, e1, ?_⟩
      split at q'
      · rename_i b e2 q2
        refine ⟨b, e2, E2, q2, fun S3 H3 E3 s3 => ?_⟩
        cases b with
        | false => exact iteF (nx S3 H3 _ xs acc ys (fin E3 w2') q' rfl)
        | true =>
          have q'' : (match el e2 with
            | some (x, e3) => (match compF vs set t el ds (backC e e3) with
              | some (xs, e4) => some (x :: xs, e4)
              | none => none)
            | none => none) = some (ys, eF) := q'
          refine iteT ⟨⟨lentOf σ e, S, H⟩, S3, e2, ?_⟩
          split at q''
          · rename_i x e3 q3
            split at q''
            · rename_i ys' e4 q4
              cases q''
              refine ⟨x, e3, E3, q3, fun S4 H4 y E4 s4 r4 => ?_⟩
              have C4 := fin E4 w2'
              refine ⟨acc, C4.h, ?_, nx S4 _ (backC e e3) (xs ++ [x]) (acc ++ [y]) ys' ?_ q4 (by simp)⟩
              · rw [← C4.r.length]
                rw [List.length_cons] at hlen
                exact Nat.lt_of_lt_of_le (by omega : xs.length < 1000000) (by decide)
              · exact ⟨C4.E.side C4.d C4.d0 C4.fr, C4.s, C4.d, C4.d0, C4.fr, upd_same, C4.r.append (.cons r4 .nil)⟩
            · cases q''
          · cases q''
      · cases q'
    · cases q'
end
section
variable {X : Cx} {c : Ct} {elt tg iter : Expr} {ifs : List Expr} {scope : Scope} {own : List (Str × Nat)} {pos : Pos} {set : FG} {t : M Bool} {el : M D} {g : TG}
/-- what a comprehension hands on -/
theorem comp_done {S1 S H : Hp} {σ : L2.St} {Dd : Addr} {e : En} {xs : List D} {acc : List V} {Q : VK} (C : CS X.K c S1 σ Dd S H e xs acc)
    (kk : ∀ S' H' p, Er X.K c S' H' σ e → Same S1 S' → OwnAt X.K S' H' (.lst xs) p → S' p = none → c.H0 p = none → (∀ (j : Nat) (f : Bool) (x : D), e[j]? = some (.ow f x) → σ[j]? ≠ some (some (.ref p))) → Q (.ref p) H') : Q (.ref Dd) H :=
  kk S H Dd C.E C.s ⟨acc, C.h, C.r⟩ C.d C.d0 C.fr
theorem comp_start {S1 H1 : Hp} {σ : L2.St} {Dd : Addr} {e : En} (E : Er X.K c S1 H1 σ e) (hD : H1 Dd = none) : CS X.K c S1 σ Dd S1 (upd H1 Dd (.lst [])) e [] [] := by
  refine ⟨E.lay _ hD, Same.refl _, E.sub.free hD, ?_, fun j f x q z => ?_, upd_same, .nil⟩
  · cases ez : c.H0 Dd with
    | none => rfl
    | some o => exact absurd hD (E.dom Dd (by rw [ez]; exact fun z => nomatch z))
  · obtain ⟨p1, a1, o1, _⟩ := E.ow j f x q
    rw [a1] at z; cases z
    exact o1.there hD
/-- over a list -/
theorem t_compL {fi : M D} (hg : ∀ (c : Ct) (S H : Hp) (σ : L2.St) (env e' : En) (d : D) (v : V) (Q : L2.St → Hp → Prop), Er X.K c S H σ env → RelD X.K S d v → set d env = some e' → (∀ σ', Er X.K c S H σ' e' → wipe σ' (own.map (·.2)) = wipe σ (own.map (·.2)) → Q σ' H) → g v σ H Q)
    (σ : L2.St) (H : Hp) (Q : VK) (h : tO X.K c (mCompL fi set t el (own.map (·.2))) σ H Q) : tLc (iList X.K (tM X.K c fi)) g (eT X.K t) (eE X.K el) (own.map (·.2)) σ H Q := by
  obtain ⟨S, env, d, env', E, e1, kk⟩ := h
  unfold mCompL at e1
  split at e1
  · rename_i d0 e2 q
    split at e1
    · rename_i ds qd
      split at e1
      · rename_i zs eF qc
        obtain ⟨hz, hp⟩ := bif_some e1
        cases hp
        have hz' : zs.length ≤ 1000000 := of_decide_eq_true hz
        refine ⟨S, env, d0, e2, E, q, fun S1 H1 v E1 s1 r1 => ?_⟩
        obtain ⟨a, us, rfl, hv, rs⟩ : ∃ a us, v = .ref a ∧ SqL X.K S1 a us ∧ RelDs X.K S1 ds us := by
          unfold itemsD at qd
          split at qd
          · cases qd; cases r1 with
            | lst h r => exact ⟨_, _, rfl, .of h, r⟩
          · cases qd; cases r1 with
            | scr h => exact ⟨_, _, rfl, h, .of_ints _⟩
          · cases qd
        refine ⟨a, rfl, ⟨us, E1.sub.seq hv⟩, fun Dd hD => ?_⟩
        refine lc_list (xs := us) (fun i H => ∃ S e xs acc ys, CS X.K c S1 σ Dd S H e xs acc ∧ compF (own.map (·.2)) set t el (ds.drop i) e = some (ys, env') ∧ xs ++ ys = zs) ⟨S1, e2, [], [], zs, comp_start E1 hD, by rw [List.drop_zero]; exact qc, rfl⟩ ?_ ?_ ?_
        · rintro i H' _ ⟨S2, e, xs, acc, ys, C, _⟩
          exact (C.s.trans C.E.sub).seq hv
        · rintro i x H' hx ⟨S2, e, xs, acc, ys, C, q2, hy⟩
          have hi : i < ds.length := by rw [rs.length]; exact (List.getElem?_eq_some_iff.mp hx).1
          rw [List.drop_eq_getElem_cons hi] at q2
          obtain ⟨x', hx', rx⟩ := rs.get (List.getElem?_eq_getElem hi)
          rw [hx] at hx'; cases hx'
          refine comp_turn C (rx.mono C.s) q2 (by have := congrArg List.length hy; rw [List.length_append] at this; omega) hg _ fun S3 H3 e3 xs3 acc3 ys3 C3 q3 hy3 => ⟨S3, e3, xs3, acc3, ys3, C3, q3, hy3.trans hy⟩
        · rintro H' ⟨S2, e, xs, acc, ys, C, q2, hy⟩
          rw [List.drop_eq_nil_of_le (by rw [rs.length]; exact Nat.le_refl _)] at q2
          cases q2
          rw [List.append_nil] at hy
          subst hy
          exact comp_done C fun S' H' p E' s' => kk S' H' p E' (s1.trans s')
      · cases e1
    · cases e1
  · cases e1
theorem t_compR {fi : M (List D)} (hg : ∀ (c : Ct) (S H : Hp) (σ : L2.St) (env e' : En) (d : D) (v : V) (Q : L2.St → Hp → Prop), Er X.K c S H σ env → RelD X.K S d v → set d env = some e' → (∀ σ', Er X.K c S H σ' e' → wipe σ' (own.map (·.2)) = wipe σ (own.map (·.2)) → Q σ' H) → g v σ H Q)
    (σ : L2.St) (H : Hp) (Q : VK) (h : tO X.K c (mCompR fi set t el (own.map (·.2))) σ H Q) : tLc (iRng1 (tMs X.K c fi)) g (eT X.K t) (eE X.K el) (own.map (·.2)) σ H Q := by
  obtain ⟨S, env, d, env', E, e1, kk⟩ := h
  unfold mCompR at e1
  split at e1
  · rename_i j e2 q
    cases hj : rgOk j with
    | false => rw [hj] at e1; cases e1
    | true =>
      rw [hj] at e1
      have e1' : (match compF (own.map (·.2)) set t el (upTo j.toNat) e2 with
        | some (xs, e2) => bif cLen xs.length then some (D.lst xs, e2) else none
        | none => none) = some (d, env') := e1
      split at e1'
      · rename_i zs eF qc
        obtain ⟨hz, hp⟩ := bif_some e1'
        cases hp
        have hz' : zs.length ≤ 1000000 := of_decide_eq_true hz
        unfold rgOk at hj
        simp only [Bool.and_eq_true, decide_eq_true_eq] at hj
        refine ⟨S, env, _, e2, E, q, fun S1 H1 us E1 s1 r1 => ?_⟩
        cases r1 with
        | cons r1 rn =>
          cases rn; cases r1
          refine ⟨j, rfl, hj.1, hj.2, fun Dd hD => ?_⟩
          refine lc_range (lo := 0) (n := j.toNat) (fun i H => ∃ S e xs acc ys, CS X.K c S1 σ Dd S H e xs acc ∧ compF (own.map (·.2)) set t el ((upTo j.toNat).drop i) e = some (ys, env') ∧ xs ++ ys = zs) ⟨S1, e2, [], [], zs, comp_start E1 hD, by rw [List.drop_zero]; exact qc, rfl⟩ ?_ ?_
          · rintro i H' hi ⟨S2, e, xs, acc, ys, C, q2, hy⟩
            rw [upTo_drop hi] at q2
            rw [Int.zero_add]
            refine comp_turn C (.int _) q2 (by have := congrArg List.length hy; rw [List.length_append] at this; omega) hg _ fun S3 H3 e3 xs3 acc3 ys3 C3 q3 hy3 => ⟨S3, e3, xs3, acc3, ys3, C3, q3, hy3.trans hy⟩
          · rintro H' ⟨S2, e, xs, acc, ys, C, q2, hy⟩
            rw [List.drop_eq_nil_of_le (by unfold upTo; simp)] at q2
            cases q2
            rw [List.append_nil] at hy
            subst hy
            exact comp_done C fun S' H' p E' s' => kk S' H' p E' (s1.trans s')
      · cases e1'
  · cases e1
theorem fo_compL {fi : M D} (hc : X.calm = true) (hN : X.N.Nodup) (ok : BlkOk X.N X.env.scope scope own) (hi : FE X c iter fi)
    (hg : ∀ (s : Shared) (H : Hp) (C : Addr) (cl : List (Str × Addr)) (fp : List Addr), TgOk (X.blk s H scope (compEnvC scope cl C X.env) fp) (own.map (·.2)) tg set g) (ht : ∀ (s : Shared) (H : Hp) (C : Addr) (cl : List (Str × Addr)) (fp : List Addr), PTs (X.blk s H scope (compEnvC scope cl C X.env) fp) ifs (eT X.K t))
    (he : ∀ (s : Shared) (H : Hp) (C : Addr) (cl : List (Str × Addr)) (fp : List Addr), PE (X.blk s H scope (compEnvC scope cl C X.env) fp) elt (eE X.K el)) (hs : ∀ x, foldedSetIterable iter X.env x = pure x := by intro _; rfl) :
    FO X c (.ListComp elt [⟨tg, iter, ifs, 0⟩] scope pos) (mCompL fi set t el (own.map (·.2))) :=
  (pe_lc hc hN (pi_list hi) ok (fun s H C cl fp => (hg s H C cl fp).1) ht he hs).weak (t_compL (hg X.s_0 (fun _ => none) 0 [] []).2)
theorem fo_compR {fi : M (List D)} {a : Expr} {p p2 : Pos} (hc : X.calm = true) (hN : X.N.Nodup) (ok : BlkOk X.N X.env.scope scope own) (hi : FA X c [a] fi) (gl : Gl X "range") (hm : X.mg "range" = none)
    (hg : ∀ (s : Shared) (H : Hp) (C : Addr) (cl : List (Str × Addr)) (fp : List Addr), TgOk (X.blk s H scope (compEnvC scope cl C X.env) fp) (own.map (·.2)) tg set g) (ht : ∀ (s : Shared) (H : Hp) (C : Addr) (cl : List (Str × Addr)) (fp : List Addr), PTs (X.blk s H scope (compEnvC scope cl C X.env) fp) ifs (eT X.K t))
    (he : ∀ (s : Shared) (H : Hp) (C : Addr) (cl : List (Str × Addr)) (fp : List Addr), PE (X.blk s H scope (compEnvC scope cl C X.env) fp) elt (eE X.K el)) (hr : starEach [a] X.env = [(false, eval a X.env)] := by rfl)
    (hs : ∀ x, foldedSetIterable (.Call (.Name "range" p) [a] [] p2) X.env x = pure x := by intro _; rfl) : FO X c (.ListComp elt [⟨tg, .Call (.Name "range" p) [a] [] p2, ifs, 0⟩] scope pos) (mCompR fi set t el (own.map (·.2))) :=
  (pe_lc hc hN (pi_range1 gl hm hi hr) ok (fun s H C cl fp => (hg s H C cl fp).1) ht he hs).weak (t_compR (hg X.s_0 (fun _ => none) 0 [] []).2)
/-- y = [..] -/
theorem sw_comp {i : Nat} {y : Str} {py spos : Pos} {wi : TI} {f : M D} {tr : TE} (w : ∀ σ H Q, tO X.K c f σ H Q → tr σ H Q) (h : PS X (.Assign [.Name y py] (.ListComp elt [⟨tg, iter, ifs, 0⟩] scope pos) spos) (tAsg tr (gName i))) : FSt X c (.Assign [.Name y py] (.ListComp elt [⟨tg, iter, ifs, 0⟩] scope pos) spos) (sOwn i f) := h.weak fun D' σ H ⟨S, env, o, E, e1, kk⟩ => by
  unfold sOwn at e1
  split at e1
  · rename_i d e2 q
    split at e1
    · rename_i s qs
      split at e1
      · cases e1
      · rename_i hl
        cases e1
        refine w σ H _ ⟨S, env, d, e2, E, q, fun S1 H1 p E1 s1 o1 z1 n1 fr => ?_⟩
        exact kk S1 H1 _ (E1.putOwn (fun e z => by rw [qs] at z; exact lentS_no hl (Option.some.inj z)) o1 z1 n1 fun j f e _ q => fr j f e q) s1
    · cases e1
  · cases e1
theorem fs_ownCompL {i : Nat} {y : Str} {py spos : Pos} {fi : M D} (hc : X.calm = true) (hN : X.N.Nodup) (hy : X.N[i]? = some y) (hyl : X.env.scope.names.lookup y = some .local) (hsw : swapsWith (.ListComp elt [⟨tg, iter, ifs, 0⟩] scope pos) (some (.Name y py)) spos.line X.env = pure true) (ok : BlkOk X.N X.env.scope scope own) (hi : FE X c iter fi)
    (hg : ∀ (s : Shared) (H : Hp) (C : Addr) (cl : List (Str × Addr)) (fp : List Addr), TgOk (X.blk s H scope (compEnvC scope cl C X.env) fp) (own.map (·.2)) tg set g) (ht : ∀ (s : Shared) (H : Hp) (C : Addr) (cl : List (Str × Addr)) (fp : List Addr), PTs (X.blk s H scope (compEnvC scope cl C X.env) fp) ifs (eT X.K t))
    (he : ∀ (s : Shared) (H : Hp) (C : Addr) (cl : List (Str × Addr)) (fp : List Addr), PE (X.blk s H scope (compEnvC scope cl C X.env) fp) elt (eE X.K el)) (hs : ∀ x, foldedSetIterable iter X.env x = pure x := by intro _; rfl) :
    FSt X c (.Assign [.Name y py] (.ListComp elt [⟨tg, iter, ifs, 0⟩] scope pos) spos) (sOwn i (mCompL fi set t el (own.map (·.2)))) :=
  sw_comp (wi := iList X.K (tM X.K c fi)) (t_compL (hg X.s_0 (fun _ => none) 0 [] []).2) (ps_setLc hc hN hy hyl hsw (pi_list hi) ok (fun s H C cl fp => (hg s H C cl fp).1) ht he hs)
theorem fs_ownCompR {i : Nat} {y : Str} {py spos : Pos} {fi : M (List D)} {a : Expr} {p p2 : Pos} (hc : X.calm = true) (hN : X.N.Nodup) (hy : X.N[i]? = some y) (hyl : X.env.scope.names.lookup y = some .local) (hsw : swapsWith (.ListComp elt [⟨tg, .Call (.Name "range" p) [a] [] p2, ifs, 0⟩] scope pos) (some (.Name y py)) spos.line X.env = pure true) (ok : BlkOk X.N X.env.scope scope own) (hi : FA X c [a] fi) (gl : Gl X "range") (hm : X.mg "range" = none)
    (hg : ∀ (s : Shared) (H : Hp) (C : Addr) (cl : List (Str × Addr)) (fp : List Addr), TgOk (X.blk s H scope (compEnvC scope cl C X.env) fp) (own.map (·.2)) tg set g) (ht : ∀ (s : Shared) (H : Hp) (C : Addr) (cl : List (Str × Addr)) (fp : List Addr), PTs (X.blk s H scope (compEnvC scope cl C X.env) fp) ifs (eT X.K t))
    (he : ∀ (s : Shared) (H : Hp) (C : Addr) (cl : List (Str × Addr)) (fp : List Addr), PE (X.blk s H scope (compEnvC scope cl C X.env) fp) elt (eE X.K el)) (hr : starEach [a] X.env = [(false, eval a X.env)] := by rfl)
    (hs : ∀ x, foldedSetIterable (.Call (.Name "range" p) [a] [] p2) X.env x = pure x := by intro _; rfl) :
    FSt X c (.Assign [.Name y py] (.ListComp elt [⟨tg, .Call (.Name "range" p) [a] [] p2, ifs, 0⟩] scope pos) spos) (sOwn i (mCompR fi set t el (own.map (·.2)))) :=
  sw_comp (wi := iRng1 (tMs X.K c fi)) (t_compR (hg X.s_0 (fun _ => none) 0 [] []).2) (ps_setLc hc hN hy hyl hsw (pi_range1 gl hm hi hr) ok (fun s H C cl fp => (hg s H C cl fp).1) ht he hs)
end
section
variable {X : Cx} {c : Ct} {a b : Expr} {pos : Pos} {fa fb : M Hd}
/-- two lists, one behind the other: a new one -/
def gCat : D → D → Option D
  | .lst xs, .lst ys => if xs.length + ys.length ≤ sizeLine then some (.lst (xs ++ ys)) else none
  | _, _ => none
theorem fo_cat (ha : FH X c a fa) (hb : FH X c b fb) : FO X c (.BinOp a .Add b pos) (m2H gCat fa fb) := (pe_op op_cat ha hb).weak fun σ H Q ⟨S, env, d, env', E, e1, k⟩ => by
  unfold m2H at e1
  split at e1
  · cases e1
  · rename_i da ea qa
    split at e1
    · cases e1
    · rename_i db eb qb
      split at e1
      · rename_i a' b' q1 q2
        split at e1
        · cases e1
        · rename_i z qz
          cases e1
          refine ⟨S, env, da, ea, E, qa, fun S1 H1 v1 E1 s1 r1 => ⟨S1, ea, db, _, E1, qb, fun S2 H2 v2 E2 s2 r2 => ?_⟩⟩
          have w1 := view E2 (r1.mono s2) q1
          have w2 := view E2 r2 q2
          unfold gCat at qz
          split at qz
          · rename_i xs ys
            split at qz
            · rename_i hz
              cases qz
              obtain ⟨l1, vs, rfl, h1, t1⟩ := w1.lst E2.sub
              obtain ⟨l2, us, rfl, h2, t2⟩ := w2.lst E2.sub
              refine ⟨l1, l2, vs, us, rfl, rfl, h1, h2, by rw [← t1.length, ← t2.length]; exact hz, fun p hp => ?_⟩
              refine k S2 _ p (E2.lay _ hp) (s1.trans s2) ⟨vs ++ us, upd_same, t1.append t2⟩ (E2.sub.free hp) ?_ fun j f e q z => ?_
              · cases ez : c.H0 p with
                | none => rfl
                | some o => exact absurd hp (E2.dom p (by rw [ez]; exact fun z => nomatch z))
              · obtain ⟨p1, a1, o1, _⟩ := E2.ow j f e q
                rw [a1] at z; cases z
                exact o1.there hp
            · cases qz
          · cases qz
      · cases e1
end
end FL

set_option Elab.async false
set_option linter.all false
set_option maxRecDepth 100000
set_option maxHeartbeats 2000000
namespace FL
open PySem PySem.Spec PyProof.Rows L2
/-! ## the head's facts, and that the table of modules stands -/
def sysD (g : Addr → Option Obj) : Bool := match g sysModules with
  | some o => (match o.data with
    | .dict _ _ => true
    | _ => false)
  | none => false
theorem sysD_ok {h : Heap} (e : sysD h.get? = true) : SysB h := by
  unfold sysD at e
  split at e
  · rename_i o q
    split at e
    · rename_i es n d
      exact ⟨o, es, n, q, d⟩
    · cases e
  · cases e
abbrev AlS : Type := He.AlD × Bool
def obsS (n : Nat) (fa : List He.Fa) (fn : List He.DefD) (g : Addr → Option Obj) : AlS := (He.obsDG n fa fn g, sysD g)
def hookS (n : Nat) (fa : List He.Fa) (fn : List He.DefD) : PySem.W.Hook where
  α := AlS
  obs := fun s => obsS n fa fn s.heap.get?
  val := fun _ => (He.valD fn, true)
  says := fun _ h => (∃ K : PySem.W.Frag, K.In h ∧ He.SaysD fa fn K) ∧ SysB h
  of := fun w s e => ⟨(He.hookD n fa fn).of w s (congrArg (fun z : AlS => z.1) e), sysD_ok (congrArg (fun z : AlS => z.2) e)⟩
  keeps := fun w h h' ⟨a, o, es, n', e, d⟩ k => ⟨(He.hookD n fa fn).keeps w h h' a k, o, es, n', k _ _ e, d⟩
theorem obsS_eq {n : Nat} {fa : List He.Fa} {fn : List He.DefD} {g : Addr → Option Obj} {s : Shared} (h : ∀ a, g a = s.heap.get? a) : obsS n fa fn g = (hookS n fa fn).obs s := by
  have e : g = s.heap.get? := funext h
  rw [e] <;> rfl
end FL

set_option Elab.async false
set_option linter.all false
set_option maxRecDepth 100000
set_option maxHeartbeats 2000000
namespace FL
open PySem PySem.Spec PyProof.Rows L2
/-! ## what is never reached -/
def sBad : FS := fun _ => none
def mBad : M D := fun _ => none
section
variable {X : Cx} {c : Ct} {st : Stmt} {e : Expr}
theorem fs_bad : FSt X c st sBad := ⟨fun pins s σ H D I ⟨S, env, o, E, q, k⟩ => by cases q⟩
theorem f_bad : FE X c e mBad := ⟨fun pins s σ H Q I ⟨S, env, d, env', E, q, k⟩ => by cases q⟩
end
/-! ## promises that may be used under a repr too -/
section
variable {P : Program} {w : World} {K : PySem.W.Frag} {mg : Str → Option Value} {base : Heap} {k : Nat} {f : Addr} {name qual : Str} {params : Arguments} {body : List Stmt} {scope : Scope} {dvs : List V} {kws : List (Str × V)} {fd : FuncData} {N ps : List Str}
theorem toG {CX : CXT} {sp : Sp} (F : FnOk P w K mg base CX k f fd ps sp) : FnG P w K mg base CX k f fd ps sp := ⟨F.len, fun A outer s H args us vs Q E _ => F.run A outer s H args us vs Q E⟩
/-- the walk of a body whose promise is spF -/
theorem walkF {fb : FS} {X : Cx} (S0 : ∀ c, FSs X.nox c body fb) (hN : X.N = N) {vs : List V} {H : Hp} {Q : VK} {E : XK} (h : spF K (mkFn N.length ps.length fb) vs H Q E) (hK : X.K = K) :
    ∃ t, PSs X body t ∧ t { nx := fun _ H' => Q .non H', rt := Q } (start N vs) H := by
  subst hK
  obtain ⟨L, S, env, d, env', E1, q, kk⟩ := h
  refine ⟨_, PSs.nox (S0 ⟨L, S, H⟩), ?_⟩
  unfold mkFn at q
  split at q
  · rename_i hl
    rw [← hl] at q
    split at q
    · rename_i d' e q2
      obtain ⟨hz, rfl, rfl⟩ := endF_some q
      exact ⟨S, _, _, E1.start, q2, fun S' H' σ' v E' s' r' => kk S' H' v (ER.finish E1 E' hz) s' r'⟩
    · rename_i e q2
      obtain ⟨hz, rfl, rfl⟩ := endF_some q
      exact ⟨S, _, _, E1.start, q2, fun S' H' σ' E' s' => kk S' H' .non (ER.finish E1 E' hz) s' .non⟩
    · cases q
  · cases q
theorem def_okN {fb : FS} (F : FunD K name qual params body scope dvs kws f fd) (Sc : FnScope N ps scope)
    (walk : ∀ (cdv : Value) (A : Around) (outer : List Env) (s : Shared) (H : Hp) (E : XK) (c : Ct), Room k (A.deeper (envOfC qual scope s.heap.objs.size f cdv)) →
      FSs (cxOf CX0 P w K mg base N qual scope f cdv A outer s H E).nox c body fb) :
    FnOk P w K mg base CX0 (k + 1) f fd ps (spF K (mkFn N.length ps.length fb)) :=
  F.ok Sc (fun vs H Q E h => spF_len vs H Q E h) fun cdv A outer s H vs Q E room h =>
    walkF (fun c => walk cdv A outer s H E c room) rfl h rfl
end
section
variable {X : Cx} {c : Ct} {k : Nat} {f : Addr} {fd : FuncData} {ps : List Str} {φ : Fn} {x : Str} {p pos : Pos} {e : Expr} {es : List Expr} {fa : M (List D)} {j : Nat}
theorem f_callN (G : FnOk X.prog X.w X.K X.mg X.base CX0 k f fd ps (spF X.K φ)) (room : Room k X.A) (gl : Gl X x) (hm : X.mg x = some (.ref f)) (kp : PySem.W.keepIn X.K (.ref f) = true) (hb : Binds X.K fd ps []) (ha : FA X c (e :: es) fa)
    (n1 : (x == ("__debug__" : Str)) = false := by decide) (n2 : starEach (e :: es) X.env = (false, eval e X.env) :: starEach es X.env := by rfl) (n3 : (backTo pos (starEach es X.env)).any (·.1) = false := by rfl) : FE X c (.Call (.Name x p) (e :: es) [] pos) (mCall φ fa) :=
  (pe_call G room gl hm kp hb .nil pass0 ha n1 n2 n3).weak t_call
end
/-! ## fields -/
def gFld (cn f : Str) : D → Option D
  | .obj c fs => if c = cn then fs.lookup f else none
  | _ => none
theorem RelFs.lookup {K : PySem.W.Frag} {S : Hp} {f : Str} {d : D} : ∀ {ds : List (Str × D)} {vs : List (Str × V)}, RelFs K S ds vs → ds.lookup f = some d → ∃ v, vs.lookup f = some v ∧ RelD K S d v
  | _, _, .nil, e => by cases e
  | _, _, .cons (k := k) h r, e => by
    rw [List.lookup_cons] at e ⊢
    cases hb : f == k with
    | true => rw [hb] at e; cases e; exact ⟨_, rfl, h⟩
    | false => rw [hb] at e; exact RelFs.lookup r e
theorem Vw.obj {K : PySem.W.Frag} {S H : Hp} {cn : Str} {fs : List (Str × D)} {v : V} (h : Vw K S H (.obj cn fs) v) (hs : Same S H) : ∃ a dx vs, v = .ref a ∧ H a = some (.ins (He.ga K cn) dx vs) ∧ RelFs K S fs vs := by
  rcases h with h | ⟨p, rfl, h⟩
  · cases h with
    | obj h r => exact ⟨_, _, _, rfl, hs _ _ h, r⟩
  · obtain ⟨dx, vs, e, r⟩ := h
    exact ⟨p, dx, vs, rfl, e, r⟩
section
variable {X : Cx} {c : Ct} {e : Expr} {pos pos' px : Pos} {f cn x : Str} {fa : M Hd} {fv : M D} {i : Nat}
/-- e.f -/
theorem f_fld (ha : FH X c e fa) (cl : Cls X.K (He.ga X.K cn)) (na : NoAttr X.K (He.ga X.K cn) f) (hb : attributeBase e f X.env (eval e X.env) = eval e X.env := by rfl) : FE X c (.Attribute e f pos) (m1H (gFld cn f) fa) := (pe_fld ha hb).weak fun σ H Q ⟨S, env, d, env', E, e1, k⟩ => by
  unfold m1H at e1
  split at e1
  · cases e1
  · rename_i da ea qa
    split at e1
    · cases e1
    · rename_i a' q1
      split at e1
      · cases e1
      · rename_i z qz
        cases e1
        refine ⟨S, env, da, _, E, qa, fun S1 H1 v1 E1 s1 r1 => ?_⟩
        have w := view E1 r1 q1
        unfold gFld at qz
        split at qz
        · rename_i c' fs
          split at qz
          · rename_i hc
            subst hc
            obtain ⟨a, dx, vs, rfl, h1, r⟩ := w.obj E1.sub
            obtain ⟨v, lv, rv⟩ := r.lookup qz
            exact ⟨a, _, dx, vs, v, rfl, h1, cl, na, lv, k S1 H1 v E1 s1 rv⟩
          · cases qz
        · cases qz
def putFD (f : Str) (d : D) : List (Str × D) → List (Str × D)
  | [] => [(f, d)]
  | (g, x) :: r => if g = f then (g, d) :: r else (g, x) :: putFD f d r
theorem RelFs.put {K : PySem.W.Frag} {S : Hp} {d : D} {v : V} (h : RelD K S d v) : ∀ {ds : List (Str × D)} {vs : List (Str × V)}, RelFs K S ds vs → RelFs K S (putFD f d ds) (putF f v vs)
  | _, _, .nil => .cons h .nil
  | _, _, .cons (k := k) h' r => by
    unfold putFD putF
    by_cases e : k = f
    · rw [if_pos e, if_pos e]; exact .cons h r
    · rw [if_neg e, if_neg e]; exact .cons h' (RelFs.put h r)
theorem RelFs.length {K : PySem.W.Frag} {S : Hp} : ∀ {ds : List (Str × D)} {vs : List (Str × V)}, RelFs K S ds vs → ds.length = vs.length
  | _, _, .nil => rfl
  | _, _, .cons _ r => congrArg (· + 1) (RelFs.length r)
/-- o.f = e, o an own object -/
def sFldD (i : Nat) (cn f : Str) (fv : M D) : FS := fun e => match fv e with
  | some (d, e1) => (match e1[i]? with
    | some (.ow g (.obj c fs)) => if c = cn then (if fs.length < 100 then some (.nx (e1.set i (.ow g (.obj c (putFD f d fs))))) else none) else none
    | _ => none)
  | none => none
theorem fs_fld (hi : PE X (.Name x px) (tVar i)) (hv : FE X c e fv) (cl : Cls X.K (He.ga X.K cn)) (na : NoAttr X.K (He.ga X.K cn) f) (hs : swapsWith e (some (.Attribute (.Name x px) f pos')) pos.line X.env = pure false := by rfl) :
    FSt X c (.Assign [.Attribute (.Name x px) f pos'] e pos) (sFldD i cn f fv) := (ps_fld hi hv hs).weak fun D' σ H ⟨S, env, o, E, e1, k⟩ => by
  unfold sFldD at e1
  split at e1
  · rename_i d e2 q
    split at e1
    · rename_i g c' fs q2
      split at e1
      · rename_i hc
        subst hc
        split at e1
        · rename_i hl
          cases e1
          refine ⟨S, env, d, e2, E, q, fun S1 H1 v E1 s1 r1 => ?_⟩
          obtain ⟨p, a, ⟨dx, vs, hp, rs⟩, z, w⟩ := E1.ow i g _ q2
          refine ⟨_, a, p, _, dx, vs, rfl, hp, cl, na, by rw [← rs.length]; omega, ?_⟩
          exact k S1 _ σ (E1.chg q2 a (fun b hb => upd_ne hb) ⟨dx, _, upd_same, rs.put r1⟩) s1
        · cases e1
      · cases e1
    · cases e1
  · cases e1
end
/-! ## instances -/
/-- C(..): φ is what __init__ does to the new object -/
def mMake (cn : Str) (φ : Fn) (fa : M (List D)) : M D := fun e => match fa e with
  | some (ds, e1) => (match φ (.ow false (.obj cn []) :: ds.map .sh) with
    | some (.non, .ow false d :: _) => some (d, e1)
    | _ => none)
  | none => none
/-- .. of an __init__ that takes a tuple of all -/
def mMakeS (cn : Str) (φ : Fn) (fa : M (List D)) : M D := fun e => match fa e with
  | some (ds, e1) => bif cLen ds.length then (match φ [.ow false (.obj cn []), .sh (.tup ds)] with
    | some (.non, .ow false d :: _) => some (d, e1)
    | _ => none) else none
  | none => none
/-- the promise of such an __init__ -/
def spS (K : PySem.W.Frag) (φ : Fn) : Sp := fun vs H Q E => ∃ ws rest, vs = ws ++ rest ∧ ws.length = 1 ∧ rest.length ≤ sizeLine ∧ ∀ p, H p = none → spF K φ (ws ++ [V.ref p]) (upd H p (.tup rest)) Q E
section
variable {X : Cx} {c : Ct} {e : Expr} {es : List Expr} {k : Nat} {f : Addr} {φ : Fn} {cn x : Str} {p pos : Pos} {fa : M (List D)}
theorem same_of {H H' : Hp} {x : Addr} {o : HO} (h : H x = none) (s : Same H H') : Same H (upd H' x o) := fun b u q => by rw [upd_ne (ne_of_none q h)]; exact s b u q
/-- what the making of an instance leaves -/
theorem made {K : PySem.W.Frag} {c : Ct} {σ : L2.St} {S1 H1 S' H' S2 H2 : Hp} {e1 r : En} {vs : List V} {d : D} {x : Addr} {Q : VK} (E1 : Er K c S1 H1 σ e1) (hx : H1 x = none) (s1 : Same S1 S') (h1 : Same H1 H') (fr : ∀ b, S' b ≠ none → S1 b ≠ none ∨ H1 b = none)
    (E2 : ER K (lent0 x) S' H' S2 H2 ((V.ref x :: vs).map some) (.ow false d :: r))
    (kk : ∀ S' H' p, Er K c S' H' σ e1 → Same S1 S' → OwnAt K S' H' d p → S' p = none → c.H0 p = none → (∀ (j : Nat) (f : Bool) (e : D), e1[j]? = some (.ow f e) → σ[j]? ≠ some (some (.ref p))) → Q (.ref p) H') : Q (.ref x) H2 := by
  obtain ⟨p, a, o, z, _⟩ := E2.ow 0 false d rfl
  cases a
  have s2 : Same S1 S2 := s1.trans E2.s0
  refine kk S2 H2 x (E1.grow s2 E2.sub (fun b q => E2.dom b ?_) (fun b o q => E2.kep b o (h1 b o q) fun i hi => ?_) fun b q => ?_) s2 o z ?_ fun j f e q z => ?_
  · cases ez : H1 b with
    | none => exact absurd ez q
    | some u => rw [h1 b u ez]; exact fun z => nomatch z
  · unfold lent0 at hi
    split at hi
    · cases hi; rw [hx] at q; cases q
    · cases hi
  · rcases E2.frs b q with q | q
    · exact fr b q
    · refine .inr ?_
      cases ez : H1 b with
      | none => rfl
      | some u => rw [h1 b u ez] at q; cases q
  · cases ez : c.H0 x with
    | none => rfl
    | some o => exact absurd hx (E1.dom x (by rw [ez]; exact fun z => nomatch z))
  · obtain ⟨p1, a1, o1, _⟩ := E1.ow j f e q
    rw [a1] at z; cases z
    exact o1.there hx
theorem t_makeS (M : Mk X.K (He.ga X.K cn) f) (σ : L2.St) (H : Hp) (Q : VK) (h : tO X.K c (mMakeS cn φ fa) σ H Q) : StX.tMakeR (He.ga X.K cn) (spS X.K φ) E0 (tMs X.K c fa) σ H Q := by
  obtain ⟨S, env, d, env', E, e1, kk⟩ := h
  unfold mMakeS at e1
  split at e1
  · rename_i ds e2 q
    obtain ⟨hl, e1⟩ : cLen ds.length = true ∧ (match φ [.ow false (.obj cn []), .sh (.tup ds)] with
      | some (.non, .ow false d :: _) => some (d, e2)
      | _ => none) = some (d, env') := by
      cases hc : cLen ds.length with
      | false => rw [hc] at e1; cases e1
      | true => rw [hc] at e1; exact ⟨rfl, e1⟩
    split at e1
    · rename_i d' r q2
      cases e1
      refine ⟨S, env, ds, _, E, q, fun S1 H1 vs E1 s1 r1 x dx hx hdx hne => ?_⟩
      have hz : ds.length ≤ 1000000 := of_decide_eq_true hl
      refine ⟨[V.ref x], vs, rfl, rfl, by rw [← r1.length]; exact Nat.le_trans hz (by decide), fun p hp => ?_⟩
      have hpx : p ≠ x := fun z => by subst z; rw [upd_same] at hp; cases hp
      have hpd : p ≠ dx := fun z => by
        subst z
        rw [upd_ne hpx, upd_same] at hp; cases hp
      have hp1 : H1 p = none := by rw [upd_ne hpx, upd_ne hpd] at hp; exact hp
      have sp : S1 p = none := E1.sub.free hp1
      have sx : S1 x = none := E1.sub.free hx
      have sd : S1 dx = none := E1.sub.free hdx
      let H' : Hp := upd (upd (upd H1 dx (.own x)) x (.ins (He.ga X.K cn) dx [])) p (.tup vs)
      have h1 : Same H1 H' := same_of hp1 (same_of hx (same_of hdx (Same.refl _)))
      have s1' : Same S1 (upd S1 p (.tup vs)) := same_upd sp
      have sub : Same (upd S1 p (.tup vs)) H' := fun b u z => by
        by_cases hb : b = p
        · subst hb
          rw [upd_same] at z
          show upd _ b _ b = _
          rw [upd_same]; exact z
        · rw [upd_ne hb] at z
          exact h1 b u (E1.sub b u z)
      have ox : OwnAt X.K (upd S1 p (.tup vs)) H' (.obj cn []) x := ⟨dx, [], by show upd _ p _ x = _; rw [upd_ne (Ne.symm hpx), upd_same], .nil⟩
      have rt : RelDs X.K (upd S1 p (.tup vs)) [.tup ds] [V.ref p] := .cons (.tup (.inl upd_same) (r1.mono s1')) .nil
      refine ⟨_, _, _, _, _, ER.args0 (vs := [V.ref p]) sub rt ox (by rw [upd_ne (Ne.symm hpx)]; exact sx), q2, fun S2 H2 v E2 s2 r2 => ?_⟩
      cases r2
      refine ⟨rfl, made (vs := [V.ref p]) E1 hx s1' h1 (fun b z => ?_) E2 fun S3 H3 p3 E3 s3 => kk S3 H3 p3 E3 (s1.trans s3)⟩
      by_cases hb : b = p
      · subst hb; exact .inr hp1
      · rw [upd_ne hb] at z; exact .inl z
    · cases e1
  · cases e1
/-- C(e, ..), __init__(self, *v) -/
theorem fo_makeS (M : Mk X.K (He.ga X.K cn) f) (F : FnR X.prog X.w X.K X.mg X.base CX0 k f (spS X.K φ)) (room : Room (k + 1) X.A) (gl : Gl X x) (hm : X.mg x = some (.ref (He.ga X.K cn))) (ha : FA X c (e :: es) fa)
    (hdb : (x == ("__debug__" : Str)) = false := by decide) (he : starEach (e :: es) X.env = (false, eval e X.env) :: starEach es X.env := by rfl) (hpl : (backTo pos (starEach es X.env)).any (·.1) = false := by rfl) :
    FO X c (.Call (.Name x p) (e :: es) [] pos) (mMakeS cn φ fa) := (StX.pe_makeR M F room gl hm pass0 ha hdb he hpl).weak (t_makeS M)
/-- C(e, ..), __init__(self, a, ..) -/
theorem fo_make {fd : FuncData} {ps : List Str} (M : Mk X.K (He.ga X.K cn) f) (F : FnOk X.prog X.w X.K X.mg X.base CX0 k f fd ps (spF X.K φ)) (room : Room (k + 1) X.A) (gl : Gl X x) (hm : X.mg x = some (.ref (He.ga X.K cn))) (hb : Binds X.K fd ps []) (ha : FA X c (e :: es) fa)
    (hdb : (x == ("__debug__" : Str)) = false := by decide) (he : starEach (e :: es) X.env = (false, eval e X.env) :: starEach es X.env := by rfl) (hpl : (backTo pos (starEach es X.env)).any (·.1) = false := by rfl) :
    FO X c (.Call (.Name x p) (e :: es) [] pos) (mMake cn φ fa) := (pe_make M F room gl hm hb .nil pass0 ha hdb he hpl).weak fun σ H Q ⟨S, env, d, env', E, e1, kk⟩ => by
  unfold mMake at e1
  split at e1
  · rename_i ds e2 q
    split at e1
    · rename_i d' r q2
      cases e1
      refine ⟨S, env, ds, _, E, q, fun S1 H1 vs E1 s1 r1 x dx hx hdx hne => ?_⟩
      have sx : S1 x = none := E1.sub.free hx
      let H' : Hp := upd (upd H1 dx (.own x)) x (.ins (He.ga X.K cn) dx [])
      have h1 : Same H1 H' := same_of hx (same_of hdx (Same.refl _))
      have sub : Same S1 H' := fun b u z => h1 b u (E1.sub b u z)
      have ox : OwnAt X.K S1 H' (.obj cn []) x := ⟨dx, [], upd_same, .nil⟩
      show spF X.K φ (V.ref x :: (vs ++ [])) _ _ E0
      rw [List.append_nil]
      refine ⟨_, _, _, _, _, ER.args0 sub r1 ox sx, q2, fun S2 H2 v E2 s2 r2 => ?_⟩
      cases r2
      exact ⟨rfl, made (vs := vs) E1 hx (Same.refl _) h1 (fun b z => .inl z) E2 fun S3 H3 p3 E3 s3 => kk S3 H3 p3 E3 (s1.trans s3)⟩
    · cases e1
  · cases e1
/-- e.f, a property -/
def mProp (cn : Str) (φ : Fn) (fa : M D) : M D := fun e => match fa e with
  | some (.obj c fs, e1) => if c = cn then (match φ [.sh (.obj c fs)] with
    | some (r, _) => some (r, e1)
    | none => none) else none
  | _ => none
theorem f_prop {fd : FuncData} {ps : List Str} {fe : M D} {pr : Addr} {g : Str} (ha : FE X c e fe) (cl : Cls X.K (He.ga X.K cn)) (hp : PropOf X.K (He.ga X.K cn) g pr f) (F : FnOk X.prog X.w X.K X.mg X.base CX0 k f fd ps (spF X.K φ)) (room : Room (k + 1) X.A) (hb : Binds X.K fd ps [])
    (hab : attributeBase e g X.env (eval e X.env) = eval e X.env := by rfl) : FE X c (.Attribute e g pos) (mProp cn φ fe) := (pe_prop ha cl hp F room hb .nil (E := E0) pass0 hab).weak fun σ H Q ⟨S, env, d, env', E, e1, kk⟩ => by
  unfold mProp at e1
  split at e1
  · rename_i c' fs e2 q
    split at e1
    · rename_i hc
      subst hc
      split at e1
      · rename_i r e3 q2
        cases e1
        refine ⟨S, env, _, _, E, q, fun S1 H1 v E1 s1 r1 => ?_⟩
        have r1' := r1
        cases r1 with
        | obj h r =>
          refine ⟨_, _, _, rfl, E1.sub _ _ h, ?_⟩
          refine ⟨_, S1, _, _, _, ER.args E1.sub (.cons r1' .nil), q2, fun S2 H2 v E2 s2 r2 => ?_⟩
          exact kk S2 H2 v (E1.grow E2.s0 E2.sub E2.dom (fun b o z => E2.kep b o z fun _ z => nomatch z) E2.frs) (s1.trans s2) r2
      · cases e1
    · cases e1
  · cases e1
end
section
variable {P : Program} {w : World} {K : PySem.W.Frag} {mg : Str → Option Value} {base : Heap} {k : Nat} {f : Addr} {name qual : Str} {params : Arguments} {body : List Stmt} {scope : Scope} {fd : FuncData} {N : List Str} {p1 pv : Str}
/-- def f(self, *v) -/
theorem def_star {fb : FS} (F : FunD K name qual params body scope [] [] f fd) (Sc : FnScope N [p1, pv] scope)
    (h : ∀ (kV doc pm : Value) (an : Option Addr) (cdv ct : Value) (us rest : List Value), us.length = 1 → bindArgs (PySem.W.fnOf name qual params body scope .none kV doc pm an cdv ct) ⟨us ++ rest, []⟩ = (newTuple rest >>= fun t => pure ([p1].zip us ++ [(pv, t)])))
    (walk : ∀ (cdv : Value) (A : Around) (outer : List Env) (s : Shared) (H : Hp) (E : XK) (c : Ct), Room k (A.deeper (envOfC qual scope s.heap.objs.size f cdv)) →
      FSs (cxOf CX0 P w K mg base N qual scope f cdv A outer s H E).nox c body fb) :
    FnR P w K mg base CX0 (k + 1) f (spS K (mkFn N.length 2 fb)) := by
  obtain ⟨oc, od, dV, kV, doc, pm, an, cdv, ct, osl, rfl, lk, hcd, hD, _⟩ := F.ex
  rcases hD with ⟨_, rfl⟩ | ⟨e, _⟩
  · exact StX.fn_star (ps := [p1]) lk hcd Sc StX.cxUp_none (h kV doc pm an cdv ct) fun A outer s H vs Q E room hsp =>
      walkF (ps := [p1, pv]) (fun c => walk cdv A outer s H E c room) rfl hsp rfl
  · exact absurd rfl e
end
end FL

set_option Elab.async false
set_option linter.all false
set_option maxRecDepth 100000
set_option maxHeartbeats 2000000
namespace FL
open PySem PySem.Spec PyProof.Rows L2
/-! ## facts of properties and of one's own, behind the head -/
/-- the property f of the class, its getter -/
def pgA (K : PySem.W.Frag) (cn f : Str) : Addr := match PySem.W.recIn K (He.ma K (He.ga K cn) f) "property" with
  | some (.ref g :: _) => g
  | _ => 0
def fnA (K : PySem.W.Frag) (a : Addr) : He.FnW := match K.lookup a with
  | some ⟨_, _, .func fd, _⟩ => some (fd.name, fd.qualname, fd.params, fd.body, fd.scope, fd.globals, fd.closure, fd.builtins)
  | _ => none
def okA (K : PySem.W.Frag) (d : He.DefD) (a : Addr) : Bool := PySem.W.keepIn K (.ref a) && (match K.lookup a with
  | some ⟨_, _, .func fd, _⟩ => PySem.W.codeIn K fd.code d.qual && (He.dflB K fd.defaults (d.dvs K) && He.kwdB K fd.kwdefaults (d.kws K))
  | _ => false)
theorem and_both {a b : Bool} (h : (a && b) = true) : a = true ∧ b = true := Bool.and_eq_true_iff.mp h
theorem funA {K : PySem.W.Frag} {d : He.DefD} {a : Addr} (e : fnA K a = d.val) (c : okA K d a = true) : ∃ fd, FunD K d.name d.qual d.params d.body d.scope (d.dvs K) (d.kws K) a fd := by
  obtain ⟨kp, c2⟩ := and_both c
  unfold fnA at e
  cases q : K.lookup a with
  | none =>
    rw [q] at c2
    cases c2
  | some o =>
    obtain ⟨oc, od, dt, osl⟩ := o
    rw [q] at c2 e
    cases dt with
    | func fd =>
      obtain ⟨n1, n2, n3, n4, n5, n6, n7, n8, n9, n10, n11, n12, n13, n14, n15⟩ := fd
      have e2 : (some (n1, n2, n3, n4, n5, n6, n7, n15) : He.FnW) = some (d.name, d.qual, d.params, .stmts d.body, d.scope, mainGlobals, [], builtinsNs) := e
      simp only [Option.some.injEq, Prod.mk.injEq] at e2
      obtain ⟨h1, h2, h3, h4, h5, h6, h7, h8⟩ := e2
      subst h1 h2 h3 h4 h5 h6 h7 h8
      have c3 : (PySem.W.codeIn K n13 d.qual && (He.dflB K n8 (d.dvs K) && He.kwdB K n9 (d.kws K))) = true := c2
      obtain ⟨k1, k2⟩ := and_both c3
      obtain ⟨k3, k4⟩ := and_both k2
      exact ⟨_, ⟨oc, od, n8, n9, n10, n11, n12, n13, n14, osl, rfl, q, k1, He.dflB_ok k3, He.kwdB_ok k4⟩, kp⟩
    | _ => cases c2
def propB (K : PySem.W.Frag) (cn f : Str) : Bool :=
  He.eqO (PySem.W.findIn K (.ref (He.ga K cn)) f) (some (some (.ref (He.ma K (He.ga K cn) f)))) &&
  (He.eqO (PySem.W.specialIn K (.ref (He.ma K (He.ga K cn) f)) "__get__") (some (some (.builtin "property.__get__"))) &&
  (decide (PySem.W.takesIn K (.ref (He.ma K (He.ga K cn) f)) = some true) && (match PySem.W.recIn K (He.ma K (He.ga K cn) f) "property" with
    | some (.ref _ :: _) => true
    | _ => false)))
theorem propB_ok {K : PySem.W.Frag} {cn f : Str} (h : propB K cn f = true) : PropOf K (He.ga K cn) f (He.ma K (He.ga K cn) f) (pgA K cn f) := by
  obtain ⟨h1, h⟩ := and_both h
  obtain ⟨h2, h⟩ := and_both h
  obtain ⟨h3, h4⟩ := and_both h
  refine ⟨He.eqO_ok h1, He.eqO_ok h2, of_decide_eq_true h3, ?_⟩
  unfold pgA
  split at h4
  · rename_i g rest q
    exact ⟨rest, by rw [q]⟩
  · cases h4
/-- a property: class, name, getter -/
structure Gt where
  cn : Str
  f : Str
  d : He.DefD
abbrev AlX : Type := He.AlD × List He.FnW × Bool
def obsX (n : Nat) (fa : List He.Fa) (fn : List He.DefD) (gs : List Gt) (xs : PySem.W.Frag → Bool) (g : Addr → Option Obj) : AlX :=
  (He.obsDG n fa fn g, gs.map (fun q => fnA (He.frG g (He.asD g n)) (pgA (He.frG g (He.asD g n)) q.cn q.f)),
    sysD g && (gs.all (fun q => propB (He.frG g (He.asD g n)) q.cn q.f && okA (He.frG g (He.asD g n)) q.d (pgA (He.frG g (He.asD g n)) q.cn q.f)) && xs (He.frG g (He.asD g n))))
/-- what is known of the module, of its properties, of the rest -/
structure SaysX (fa : List He.Fa) (fn : List He.DefD) (gs : List Gt) (xs : PySem.W.Frag → Bool) (K : PySem.W.Frag) : Prop where
  d : He.SaysD fa fn K
  g : gs.map (fun q => fnA K (pgA K q.cn q.f)) = gs.map (·.d.val)
  p : gs.all (fun q => propB K q.cn q.f && okA K q.d (pgA K q.cn q.f)) = true
  x : xs K = true
theorem SaysX.prop {fa : List He.Fa} {fn : List He.DefD} {gs : List Gt} {xs : PySem.W.Frag → Bool} {K : PySem.W.Frag} (s : SaysX fa fn gs xs K) (i : Nat) {q : Gt} (h : gs[i]? = some q := by rfl) :
    PropOf K (He.ga K q.cn) q.f (He.ma K (He.ga K q.cn) q.f) (pgA K q.cn q.f) ∧ ∃ fd, FunD K q.d.name q.d.qual q.d.params q.d.body q.d.scope (q.d.dvs K) (q.d.kws K) (pgA K q.cn q.f) fd := by
  obtain ⟨a, b⟩ := and_both (List.all_eq_true.mp s.p q (List.mem_of_getElem? h))
  refine ⟨propB_ok a, funA ?_ b⟩
  have e2 : (gs.map (fun q => fnA K (pgA K q.cn q.f)))[i]? = (gs.map (·.d.val))[i]? := by rw [s.g]
  rw [List.getElem?_map, List.getElem?_map, h] at e2
  exact Option.some.inj e2
def hookX (n : Nat) (fa : List He.Fa) (fn : List He.DefD) (gs : List Gt) (xs : PySem.W.Frag → Bool) : PySem.W.Hook where
  α := AlX
  obs := fun s => obsX n fa fn gs xs s.heap.get?
  val := fun _ => (He.valD fn, gs.map (·.d.val), true)
  says := fun _ h => (∃ K : PySem.W.Frag, K.In h ∧ SaysX fa fn gs xs K) ∧ SysB h
  of := fun w s e => by
    obtain ⟨b1, b2⟩ := and_both (congrArg (fun z : AlX => z.2.2) e)
    obtain ⟨b3, b4⟩ := and_both b2
    exact ⟨⟨_, He.frG_in, congrArg (fun z : AlX => z.1) e, congrArg (fun z : AlX => z.2.1) e, b3, b4⟩, sysD_ok b1⟩
  keeps := fun w h h' ⟨⟨K, a, c⟩, o, es, n', e, d⟩ k => ⟨⟨K, PySem.W.Frag.In.keeps a k, c⟩, o, es, n', k _ _ e, d⟩
theorem obsX_eq {n : Nat} {fa : List He.Fa} {fn : List He.DefD} {gs : List Gt} {xs : PySem.W.Frag → Bool} {g : Addr → Option Obj} {s : Shared} (h : ∀ a, g a = s.heap.get? a) : obsX n fa fn gs xs g = (hookX n fa fn gs xs).obs s := by
  have e : g = s.heap.get? := funext h
  rw [e] <;> rfl
end FL

set_option Elab.async false
set_option linter.all false
set_option maxRecDepth 100000
set_option maxHeartbeats 2000000
namespace SrtO
open PySem PyProof.Rows Srt
section
variable {prog : Program} {w : World} {A : Around} {E : Value → Shared → Prop} {s : Shared}
/-- sorted of pairs of ints that stand in a list or a tuple -/
theorem sorted_seqO {it : Addr} {T : String} {o : Obj} {n : Nat} {vs : List Value} {k : Value → Int × Int} {Q : Value → Shared → Prop} (hT : T = "list" ∨ T = "tuple") (ho : s.heap.get? it = some o) (hc : o.cls = .type T) (hd : o.data = .seq vs.toArray n)
    (hz : vs.length ≤ sizeLine) (hp : ∀ v ∈ vs, IsPair s.heap v (k v).1 (k v).2)
    (h : ∀ (h' : Heap) (d : Addr) (out : List Value), Srtd (fun v u => lexB (k v) (k u)) out → Stb (fun v u => lexB (k v) (k u)) out vs → (∀ b o, s.heap.get? b = some o → h'.get? b = some o) → s.heap.get? d = none → (∃ n, h'.get? d = some (seqObj "list" out.toArray n)) → Q (.ref d) { s with heap := h' }) :
    wpAny (model prog w) A (call (.builtin "sorted") [.ref it]) Q E s := by
  refine Calls.call_function_entry kind_sorted plain_sorted entry_sorted (args_sorted1 _) ?_
  unfold Builtin.«sorted»
  refine wpAny_bind (m := checkCount "sorted" 1 1 _) (wpAny_pure ?_)
  refine wpAny_bind (wpAny_collect_seq it hT ho hc hd (fun h1 k1 => ?_) (by rw [List.size_toArray]; exact hz))
  refine wpAny_bind (wpAny_newList ?_ (by simpa using hz))
  have hoL : (h1.push (seqObj "list" vs.toArray 0)).get? h1.objs.size = some (seqObj "list" vs.toArray 0) := Heap.get?_push_size _ rfl
  have kk : ∀ b o, s.heap.get? b = some o → (h1.push (seqObj "list" vs.toArray 0)).get? b = some o := fun b o e => Heap.get?_push_of_some _ (k1 b o e)
  have big : s.heap.get? h1.objs.size = none := by
    cases e : s.heap.get? h1.objs.size with
    | none => rfl
    | some o => exact absurd (Heap.lt_size (k1 _ _ e)) (Nat.lt_irrefl _)
  refine wpAny_bind (wpAny_holding (wpAny_call_entry slot_list_sort ⟨_, hoL, rfl⟩ entry_list_sort (list_sort_ord (swo_lex k) hoL hz (fun h2 => ?_) fun out hs hb => ⟨_, rfl, ?_⟩) (args_list_sort _)))
  · refine pairs_sortableO (by omega) (fun v hm => (hp v hm).keeps fun b o e _ => kk b o e) fun o e => ?_
    have e' : some o = some (seqObj "list" vs.toArray 0) := e.symm.trans hoL
    cases e'
    intro c
    exact absurd (Value.type.inj c) (by decide)
  · refine wpAny_pure ⟨_, rfl, h _ _ out hs hb ?_ big ?_⟩
    · intro b o e
      have hb : b ≠ h1.objs.size := fun z => by subst z; rw [big] at e; cases e
      exact (PyProof.Rows.sortedHeap_old hb (Heap.lt_size (kk b o e))).trans (kk b o e)
    · exact PyProof.Rows.sortedHeap_at (vs := vs) (out := out.toArray) hoL
end
end SrtO

set_option Elab.async false
set_option linter.all false
set_option maxRecDepth 100000
set_option maxHeartbeats 2000000
namespace FL
open PySem PySem.Spec PyProof.Rows L2
/-! ## sorted, of pairs of ints -/
def leP (p q : Int × Int) : Bool := !SrtO.lexB q p
theorem leP_iff {p q : Int × Int} : leP p q = true ↔ p.1 < q.1 ∨ (p.1 = q.1 ∧ p.2 ≤ q.2) := by
  unfold leP
  rw [Bool.not_eq_true', SrtO.lexB_no]
  omega
def sortP (ps : List (Int × Int)) : List (Int × Int) := ps.mergeSort leP
theorem sortP_sorted (ps : List (Int × Int)) : (sortP ps).Pairwise fun a b => leP a b = true := List.pairwise_mergeSort (fun a b c h1 h2 => by
  rw [leP_iff] at h1 h2 ⊢; omega) (fun a b => by
  rw [Bool.or_eq_true, leP_iff, leP_iff]; omega) ps
theorem sortP_perm (ps : List (Int × Int)) : (sortP ps).Perm ps := List.mergeSort_perm ps leP
theorem sortP_uniq {l ps : List (Int × Int)} (h : l.Pairwise fun a b => leP a b = true) (p : l.Perm ps) : l = sortP ps :=
  List.Perm.eq_of_pairwise (fun a b _ _ h1 h2 => by
    rw [leP_iff] at h1 h2
    exact Prod.ext (by omega) (by omega)) h (sortP_sorted ps) (p.trans (sortP_perm ps).symm)
/-- the pair that stands at u -/
def kH (h : Heap) (u : Value) : Int × Int := match u with
  | .ref t => (match h.get? t with
    | some o => (match o.data with
      | .seq vs _ => (match vs.toList with
        | [.int x _, .int y _] => (x, y)
        | _ => (0, 0))
      | _ => (0, 0))
    | none => (0, 0))
  | _ => (0, 0)
def rSortP (K : PySem.W.Frag) : List V → Hp → VK → Prop := fun vs H Q => ∃ (a : Addr) (xs : List V) (ps : List (Int × Int)), vs = [V.ref a] ∧ (SqL K H a xs ∨ SqT K H a xs) ∧ xs.length = ps.length ∧
  (∀ z ∈ xs.zip ps, ∃ t, z.1 = V.ref t ∧ SqT K H t [.int z.2.1, .int z.2.2]) ∧ ∀ (zs : List (V × (Int × Int))) p, (∀ z ∈ zs, z ∈ xs.zip ps) → zs.map (·.2) = sortP ps → H p = none → Q (.ref p) (upd H p (.lst (zs.map (·.1))))
theorem obj_there {P : Program} {w : World} {H : Hp} {h : Heap} {a : Addr} : ∀ {o : HO}, ObjOk P w H h a o → ∃ ob, h.get? a = some ob := by
  intro o x
  cases o with
  | lst xs => obtain ⟨z, its, n, r, e⟩ := x; exact ⟨_, e⟩
  | tup xs => obtain ⟨z, its, r, ob, e, c⟩ := x; exact ⟨_, e⟩
  | dK kvs => obtain ⟨z, y, vs, r, ob, es, ep, e, c⟩ := x; exact ⟨_, e⟩
  | dT kvs => obtain ⟨z, y, xs, r, ob, es, ep, e, c⟩ := x; exact ⟨_, e⟩
  | set S n => obtain ⟨ob, es, ep, t, e, c⟩ := x; exact ⟨_, e⟩
  | ins C dx fs => obtain ⟨d, z, ne, e, r⟩ := x; exact ⟨_, e⟩
  | own y => exact x
  | xd fs => obtain ⟨mA, ⟨od, es, ep, e, c⟩, r⟩ := x; exact ⟨_, e⟩
  | rng lo hi => obtain ⟨t, u, v, e⟩ := x; exact ⟨_, e⟩
  | frz ob u => obtain ⟨e, q⟩ := x; exact ⟨_, e⟩
  | tbl ps => exact ⟨_, x⟩
  | met f y => exact ⟨_, x⟩
  | ext φ => exact x.2.1
section
variable {X : Cx}
theorem kh_at {pins : List (Addr × Obj)} {σ : L2.St} {H : Hp} {s : Shared} (I : Inv X pins σ H s) {t : Addr} {x y : Int} (h : SqT X.K H t [.int x, .int y]) : kH s.heap (.ref t) = (x, y) ∧ Srt.IsPair s.heap (.ref t) x y := by
  obtain ⟨its, rv, ⟨o, ho, hc, n, hd⟩, _⟩ := I.tuple h
  obtain ⟨u1, u2, rfl, ⟨t1, rfl⟩, ⟨t2, rfl⟩⟩ := vals2 rv
  refine ⟨?_, t, o, t1, t2, n, rfl, ho, hc, hd⟩
  unfold kH
  simp only [ho, hd]
theorem kh_all {pins : List (Addr × Obj)} {σ : L2.St} {H : Hp} {s : Shared} (I : Inv X pins σ H s) : ∀ {xs : List V} {its : List Value} {ps : List (Int × Int)}, Vals xs its → xs.length = ps.length → (∀ z ∈ xs.zip ps, ∃ t, z.1 = V.ref t ∧ SqT X.K H t [.int z.2.1, .int z.2.2]) →
    its.map (kH s.heap) = ps ∧ ∀ u ∈ its, Srt.IsPair s.heap u (kH s.heap u).1 (kH s.heap u).2
  | [], _, [], .nil, _, _ => ⟨rfl, fun _ h => by cases h⟩
  | x :: xs, _, p :: ps, .cons rx r, hl, h => by
    obtain ⟨e, t⟩ := kh_all I r (by simpa using hl) fun z hz => h z (List.mem_cons_of_mem _ hz)
    obtain ⟨a, ex, sq⟩ := h (x, p) List.mem_cons_self
    have ex' : x = V.ref a := ex
    subst ex'
    obtain ⟨k1, k2⟩ := kh_at I sq
    cases rx
    refine ⟨by rw [List.map_cons, e, k1], fun u hu => ?_⟩
    rcases List.mem_cons.mp hu with rfl | hu
    · rw [k1]; exact k2
    · exact t u hu
  | [], _, _ :: _, _, hl, _ => by cases hl
  | _ :: _, _, [], _, hl, _ => by cases hl
theorem cr_sortP : CallR X (.builtin "sorted") (rSortP X.K) := by
  intro pins s σ H vs us Q I r h
  obtain ⟨a, xs, ps, rfl, hs, hl, hx, q⟩ := h
  obtain ⟨u, rfl, ru⟩ := vals1 r
  obtain rfl : u = Value.ref a := ru
  obtain ⟨its, rv, T, hT, o, n, ho, hc, hd, hz⟩ : ∃ its, Vals xs its ∧ ∃ T, (T = "list" ∨ T = "tuple") ∧ ∃ o n, s.heap.get? a = some o ∧ o.cls = .type T ∧ o.data = .seq its.toArray n ∧ its.length ≤ sizeLine := by
    rcases hs with hs | hs
    · obtain ⟨its, rv, pl, hz⟩ := I.list hs
      obtain ⟨o, ho, hc, n, hd⟩ := pl.isList
      exact ⟨its, rv, "list", .inl rfl, o, n, ho, hc, hd, by rw [← rv.length]; exact hz⟩
    · obtain ⟨its, rv, ⟨o, ho, hc, n, hd⟩, hz⟩ := I.tuple hs
      exact ⟨its, rv, "tuple", .inr rfl, o, n, ho, hc, hd, by first | exact hz | (rw [← rv.length]; exact hz)⟩
  obtain ⟨e, pr⟩ := kh_all I rv hl hx
  obtain ⟨e1, e2⟩ := refs_back rv fun x m => by
    obtain ⟨i, hi, rfl⟩ := List.getElem_of_mem m
    obtain ⟨t, ht, _⟩ := hx (xs[i], ps[i]'(by omega)) (by
      have : (xs.zip ps)[i]'(by rw [List.length_zip]; omega) = (xs[i], ps[i]'(by omega)) := List.getElem_zip
      rw [← this]
      exact List.getElem_mem _)
    exact ⟨t, ht⟩
  refine SrtO.sorted_seqO (k := kH s.heap) hT ho hc hd hz pr fun h' d out h1 h2 kp hn ⟨m, hm⟩ => ?_
  have h3 : ∀ u ∈ out, ∃ a, u = Value.ref a := fun u hu => e2 u (h2.perm.mem_iff.mp hu)
  have hfree : H d = none := by
    cases e : H d with
    | none => rfl
    | some ob =>
      obtain ⟨u, z⟩ := obj_there (I.hok d ob e)
      rw [hn] at z; cases z
  have hz' : xs.zip ps = its.map fun u => (backV u, kH s.heap u) := by
    rw [← e, e1, List.zip_map']
  have sp : out.map (kH s.heap) = sortP ps := by
    refine sortP_uniq ?_ (by rw [← e]; exact h2.perm.map _)
    rw [List.pairwise_map]
    refine List.Pairwise.imp ?_ h1
    intro x y hxy
    unfold leP
    simpa using hxy
  have key := q (out.map fun u => (backV u, kH s.heap u)) d (fun z hz => by
    rw [hz']
    obtain ⟨u, hu, rfl⟩ := List.mem_map.mp hz
    exact List.mem_map.mpr ⟨u, h2.perm.mem_iff.mp hu, rfl⟩) (by rw [List.map_map]; exact sp) hfree
  rw [List.map_map] at key
  refine ⟨.ref d, upd H d (.lst (out.map backV)), Inv.laidN (t' := s.toks) I kp hn hfree ⟨by rw [List.length_map, h2.perm.length_eq]; exact hz, out, m, vals_back h3, hm⟩, rfl, key⟩
end
def tupP (p : Int × Int) : D := .tup [.int p.1, .int p.2]
def pairD : D → Option (Int × Int)
  | .tup [.int a, .int b] => some (a, b)
  | _ => none
def pairsD : List D → Option (List (Int × Int))
  | [] => some []
  | d :: r => match pairD d with
    | some p => (match pairsD r with
      | some ps => some (p :: ps)
      | none => none)
    | none => none
theorem pairD_eq {d : D} {p : Int × Int} (h : pairD d = some p) : d = tupP p := by
  unfold pairD at h
  split at h
  · cases h; rfl
  · cases h
theorem pairs_rel {K : PySem.W.Frag} {S : Hp} : ∀ {ds : List D} {vs : List V} {ps : List (Int × Int)}, RelDs K S ds vs → pairsD ds = some ps → vs.length = ps.length ∧ ∀ z ∈ vs.zip ps, RelD K S (tupP z.2) z.1
  | _, _, _, .nil, h => by
    cases h
    exact ⟨rfl, fun _ z => by cases z⟩
  | d :: ds, v :: vs, _, .cons r rs, h => by
    unfold pairsD at h
    split at h
    · rename_i p q
      split at h
      · rename_i ps q2
        cases h
        obtain ⟨a, b⟩ := pairs_rel rs q2
        refine ⟨by simp [a], fun z hz => ?_⟩
        rcases List.mem_cons.mp hz with rfl | hz
        · rw [← pairD_eq q]; exact r
        · exact b z hz
      · cases h
    · cases h
theorem rel_pairs {K : PySem.W.Frag} {S : Hp} : ∀ {zs : List (V × (Int × Int))}, (∀ z ∈ zs, RelD K S (tupP z.2) z.1) → RelDs K S ((zs.map (·.2)).map tupP) (zs.map (·.1))
  | [], _ => .nil
  | z :: zs, h => .cons (h z List.mem_cons_self) (rel_pairs fun y hy => h y (List.mem_cons_of_mem _ hy))
theorem sqT_of {K : PySem.W.Frag} {S H : Hp} {p : Int × Int} {v : V} (h : RelD K S (tupP p) v) (hs : Same S H) : ∃ t, v = V.ref t ∧ SqT K H t [.int p.1, .int p.2] := by
  unfold tupP at h
  cases h with
  | tup h r =>
    cases r with
    | cons r1 r => cases r with
      | cons r2 r => cases r; cases r1; cases r2; exact ⟨_, rfl, (h.same hs).sq⟩
/-- sorted(x), x a list or a tuple of pairs of ints -/
def gSortP : List D → Option D
  | [.lst ds] => (match pairsD ds with
    | some ps => some (.lst ((sortP ps).map tupP))
    | none => none)
  | [.tup ds] => (match pairsD ds with
    | some ps => some (.lst ((sortP ps).map tupP))
    | none => none)
  | _ => none
theorem on_sortP {K : PySem.W.Frag} : OpN K (rSortP K) gSortP := by
  intro S H ds z xs Q q rs hs kv ka
  have key : ∀ {es : List D} {vs : List V} {ps : List (Int × Int)} {a : Addr}, RelDs K S es vs → pairsD es = some ps → (SqL K H a vs ∨ SqT K H a vs) → z = .lst ((sortP ps).map tupP) → rSortP K [V.ref a] H Q := fun {es vs ps a} r e sq ez => by
    obtain ⟨hl, hz⟩ := pairs_rel r e
    refine ⟨a, vs, ps, rfl, sq, hl, fun y hy => sqT_of (hz y hy) hs, fun zs p hzs hm hp => ka p _ hp ?_⟩
    subst ez
    refine .lst upd_same ?_
    rw [← hm]
    exact (rel_pairs fun y hy => hz y (hzs y hy)).mono (same_upd (hs.free hp))
  unfold gSortP at q
  split at q
  · split at q
    · rename_i es ps e
      cases q
      cases rs with
      | cons r1 rs => cases rs; cases r1 with
        | lst h r => exact key r e (.inl (.of (hs _ _ h))) rfl
    · cases q
  · split at q
    · rename_i es ps e
      cases q
      cases rs with
      | cons r1 rs => cases rs; cases r1 with
        | tup h r => exact key r e (.inr (h.same hs).sq) rfl
    · cases q
  · cases q
theorem f_sorted {X : Cx} {c : Ct} {a : Expr} {p pos : Pos} {f : M (List D)} (ha : FA X c [a] f) (hg : Gl X "sorted") (hm : X.mg "sorted" = none) (he : starEach [a] X.env = (false, eval a X.env) :: starEach [] X.env := by rfl) (hpl : (backTo pos (starEach ([] : List Expr) X.env)).any (·.1) = false := by rfl) :
    FE X c (.Call (.Name "sorted" p) [a] [] pos) (mMk gSortP f) := f_blt cr_sortP on_sortP ha hg hm (by decide +kernel) (by decide) (by decide) he hpl
end FL

set_option Elab.async false
set_option linter.all false
set_option maxRecDepth 100000
set_option maxHeartbeats 2000000
namespace FL
open PySem PySem.Spec PyProof.Rows L2
/-! ## operators by a class's own methods -/
/-- e in o -/
def rInO (cn : Str) (K : PySem.W.Frag) (φ : Fn) : R2 := fun x y H Q => ∃ a dx fs, y = .ref a ∧ H a = some (.ins (He.ga K cn) dx fs) ∧ spF K φ [y, x] H (fun v H' => ∃ b, v = .bl b ∧ Q (.bl b) H') E0
/-- o op e -/
def rOpO (cn : Str) (K : PySem.W.Frag) (φ : Fn) : R2 := fun x y H Q => ∃ a dx fs b dy gs, x = .ref a ∧ y = .ref b ∧ H a = some (.ins (He.ga K cn) dx fs) ∧ H b = some (.ins (He.ga K cn) dy gs) ∧ spF K φ [x, y] H Q E0
theorem back_of {R : Value → Shared → Prop} {z : V} {r : Value} {s : Shared} (rz : RelV z r) (h : R r s) : PySem.W.CmpBack R r s := by
  cases r <;> first | exact h | (exfalso; cases z <;> first | (obtain ⟨t, e⟩ := rz; cases e) | (cases (show _ = _ from rz)))
section
variable {X : Cx} {c : Ct} {k : Nat} {f : Addr} {fd : FuncData} {ps : List Str} {φ : Fn} {cn : Str} {a b : Expr} {pos : Pos} {fa fb : M D}
theorem op_inO (F : FnOk X.prog X.w X.K X.mg X.base CX0 k f fd ps (spF X.K φ)) (hm : Meth X.K (He.ga X.K cn) "__contains__" f) (room : Room k X.A) (hb : Binds X.K fd ps []) : OpR X (compareOp .In) (rInO cn X.K φ) := by
  intro pins s σ H x y v u Q I rx ry h
  obtain ⟨a, dx, fs, rfl, ha, hsp⟩ := h
  cases ry
  obtain ⟨mA, J, _⟩ := ins_get I.hok ha
  obtain ⟨od, J, _⟩ := J.look
  obtain ⟨m, hF⟩ := I.fr
  refine PySem.W.in_K hF I.ok.mod.kin J hm.at_ hm.fn (wpAny_mono (run_fn (vs := [.ref a, x]) F room hb .nil pass0 I (.cons rfl (.cons rx .nil)) hsp) (fun r s' q => ?_) fun _ _ z => z)
  obtain ⟨z, H', I', rz, b, ez, q⟩ := q
  subst ez
  cases rz
  exact wpAny_pure ⟨.bl b, H', I', rfl, q⟩
theorem op_binO {op : Operator} (F : FnOk X.prog X.w X.K X.mg X.base CX0 k f fd ps (spF X.K φ)) (hm : Meth X.K (He.ga X.K cn) (PySem.dunder op.info.2) f) (hs : PySem.W.selfFirst X.K (He.ga X.K cn) = true) (room : Room k X.A) (hb : Binds X.K fd ps []) : OpR X (binaryOp op) (rOpO cn X.K φ) := by
  intro pins s σ H x y v u Q I rx ry h
  obtain ⟨a, dx, fs, b, dy, gs, rfl, rfl, ha, hb', hsp⟩ := h
  cases rx
  cases ry
  obtain ⟨mA, J, _⟩ := ins_get I.hok ha
  obtain ⟨mB, J', _⟩ := ins_get I.hok hb'
  obtain ⟨od, J, _⟩ := J.look
  obtain ⟨od', J', _⟩ := J'.look
  obtain ⟨m, hF⟩ := I.fr
  refine PySem.W.binop_K hF I.ok.mod.kin J J'.type hs hm.at_ hm.fn (wpAny_mono (run_fn (vs := [.ref a, .ref b]) F room hb .nil pass0 I (.cons rfl (.cons rfl .nil)) hsp) (fun r s' q => ?_) fun _ _ z => z)
  have q0 := q
  obtain ⟨z, H', I', rz, _⟩ := q
  exact back_of rz q0
theorem op_eqO (F : FnOk X.prog X.w X.K X.mg X.base CX0 k f fd ps (spF X.K φ)) (hm : Meth X.K (He.ga X.K cn) "__eq__" f) (room : Room k X.A) (hb : Binds X.K fd ps []) : OpR X (compareOp .Eq) (rOpO cn X.K φ) := by
  intro pins s σ H x y v u Q I rx ry h
  obtain ⟨a, dx, fs, b, dy, gs, rfl, rfl, ha, hb', hsp⟩ := h
  cases rx
  cases ry
  obtain ⟨mA, J, _⟩ := ins_get I.hok ha
  obtain ⟨mB, J', _⟩ := ins_get I.hok hb'
  obtain ⟨od, J, _⟩ := J.look
  obtain ⟨od', J', _⟩ := J'.look
  obtain ⟨m, hF⟩ := I.fr
  refine PySem.W.cmp_K (op := .Eq) (tb := .ref (He.ga X.K cn)) room.units0 hF I.ok.mod.kin J J'.type (by simp [PySem.W.notFirst]) hm.at_ hm.fn (wpAny_mono (run_fn (vs := [.ref a, .ref b]) F room hb .nil pass0 I (.cons rfl (.cons rfl .nil)) hsp) (fun r s' q => ?_) fun _ _ z => z)
  have q0 := q
  obtain ⟨z, H', I', rz, _⟩ := q
  exact back_of rz q0
/-- e in o -/
def mInO (cn : Str) (φ : Fn) (fa fb : M D) : M D := fun e => match fa e with
  | some (d, e1) => (match fb e1 with
    | some (.obj c fs, e2) => if c = cn then (match φ [.sh (.obj c fs), .sh d] with
      | some (.bl b, _) => some (.bl b, e2)
      | _ => none) else none
    | _ => none)
  | none => none
/-- o op o' -/
def mOpO (cn : Str) (φ : Fn) (fa fb : M D) : M D := fun e => match fa e with
  | some (.obj c fs, e1) => (match fb e1 with
    | some (.obj c' gs, e2) => if c = cn ∧ c' = cn then (match φ [.sh (.obj c fs), .sh (.obj c' gs)] with
      | some (d, _) => some (d, e2)
      | none => none) else none
    | _ => none)
  | _ => none
theorem f_inO (F : FnOk X.prog X.w X.K X.mg X.base CX0 k f fd ps (spF X.K φ)) (hm : Meth X.K (He.ga X.K cn) "__contains__" f) (room : Room k X.A) (hb : Binds X.K fd ps []) (ha : FE X c a fa) (hbb : FE X c b fb) (hbi : behindInMarks .In b = false := by rfl) :
    FE X c (.Compare a [.In] [b] pos) (mInO cn φ fa fb) := (pe_cmpR (op_inO F hm room hb) ha hbb hbi).weak fun σ H Q ⟨S, env, d, env', E, e1, kk⟩ => by
  unfold mInO at e1
  split at e1
  · rename_i da ea qa
    split at e1
    · rename_i c' fs eb qb
      split at e1
      · rename_i hc
        subst hc
        split at e1
        · rename_i r e3 q2
          cases e1
          refine ⟨S, env, da, ea, E, qa, fun S1 H1 v1 E1 s1 r1 => ⟨S1, ea, _, _, E1, qb, fun S2 H2 v2 E2 s2 r2 => ?_⟩⟩
          have r2' := r2
          cases r2 with
          | obj h r =>
            refine ⟨_, _, _, rfl, E2.sub _ _ h, ?_⟩
            refine ⟨_, S2, _, _, _, ER.args E2.sub (.cons r2' (.cons (r1.mono s2) .nil)), q2, fun S3 H3 v E3 s3 r3 => ?_⟩
            cases r3
            exact ⟨_, rfl, kk S3 H3 _ (E2.grow E3.s0 E3.sub E3.dom (fun b o z => E3.kep b o z fun _ z => nomatch z) E3.frs) ((s1.trans s2).trans s3) (.bl _)⟩
        · cases e1
      · cases e1
    · cases e1
  · cases e1
theorem t_opO (σ : L2.St) (H : Hp) (Q : VK) (h : tM X.K c (mOpO cn φ fa fb) σ H Q) : tOp (rOpO cn X.K φ) (tM X.K c fa) (tM X.K c fb) σ H Q := by
  obtain ⟨S, env, d, env', E, e1, kk⟩ := h
  unfold mOpO at e1
  split at e1
  · rename_i c1 fs ea qa
    split at e1
    · rename_i c' gs eb qb
      split at e1
      · rename_i hc
        obtain ⟨rfl, rfl⟩ := hc
        split at e1
        · rename_i r e3 q2
          cases e1
          refine ⟨S, env, _, ea, E, qa, fun S1 H1 v1 E1 s1 r1 => ⟨S1, ea, _, _, E1, qb, fun S2 H2 v2 E2 s2 r2 => ?_⟩⟩
          have r2' := r2
          have r1' := r1.mono s2
          cases r2 with
          | obj h r => cases r1 with
            | obj h1 r1 =>
              refine ⟨_, _, _, _, _, _, rfl, rfl, E2.sub _ _ (s2 _ _ h1), E2.sub _ _ h, ?_⟩
              refine ⟨_, S2, _, _, _, ER.args E2.sub (.cons r1' (.cons r2' .nil)), q2, fun S3 H3 v E3 s3 r3 => ?_⟩
              exact kk S3 H3 _ (E2.grow E3.s0 E3.sub E3.dom (fun b o z => E3.kep b o z fun _ z => nomatch z) E3.frs) ((s1.trans s2).trans s3) r3
        · cases e1
      · cases e1
    · cases e1
  · cases e1
theorem f_binO {op : Operator} (F : FnOk X.prog X.w X.K X.mg X.base CX0 k f fd ps (spF X.K φ)) (hm : Meth X.K (He.ga X.K cn) (PySem.dunder op.info.2) f) (hs : PySem.W.selfFirst X.K (He.ga X.K cn) = true) (room : Room k X.A) (hb : Binds X.K fd ps []) (ha : FE X c a fa) (hbb : FE X c b fb) :
    FE X c (.BinOp a op b pos) (mOpO cn φ fa fb) := (pe_op (op_binO F hm hs room hb) ha hbb).weak t_opO
theorem f_eqO (F : FnOk X.prog X.w X.K X.mg X.base CX0 k f fd ps (spF X.K φ)) (hm : Meth X.K (He.ga X.K cn) "__eq__" f) (room : Room k X.A) (hb : Binds X.K fd ps []) (ha : FE X c a fa) (hbb : FE X c b fb) (hbi : behindInMarks .Eq b = false := by rfl) :
    FE X c (.Compare a [.Eq] [b] pos) (mOpO cn φ fa fb) := (pe_cmpR (op_eqO F hm room hb) ha hbb hbi).weak t_opO
end
end FL
namespace FL
open PySem PySem.Spec PyProof.Rows L2
section
variable {X : Cx} {c : Ct} {k : Nat} {f : Addr} {φ : Fn} {cn x : Str} {p pos : Pos}
/-- C(), __init__(self, *v) -/
theorem fo_makeS0 (M : Mk X.K (He.ga X.K cn) f) (F : FnR X.prog X.w X.K X.mg X.base CX0 k f (spS X.K φ)) (room : Room (k + 1) X.A) (gl : Gl X x) (hm : X.mg x = some (.ref (He.ga X.K cn)))
    (hdb : (x == ("__debug__" : Str)) = false := by decide) : FO X c (.Call (.Name x p) [] [] pos) (mMakeS cn φ mNil) := by
  have key : PE X (.Call (.Name x p) [] [] pos) (StX.tMakeR (He.ga X.K cn) (spS X.K φ) E0 tNil) := by
    refine ⟨fun pins s σ H Q I h => ?_⟩
    refine wpAny_Call_Name_kw (ld_glob I gl hm ?_ hdb)
    exact PySem.W.callWith_K0 I.kIn M.kp (StX.run_makeR (us := []) M F room pass0 I .nil h)
  exact key.weak fun σ H Q h => by
    obtain ⟨S, env, ds, env', E, q, kk⟩ := t_makeS M σ H Q h
    cases q
    exact kk S H [] E (Same.refl _) .nil
end
end FL

set_option Elab.async false
set_option linter.all false
set_option maxRecDepth 100000
set_option maxHeartbeats 2000000
namespace FL
open PySem PySem.Spec PyProof.Rows L2
/-! ## range(i, j, c) -/
def stepTo (i c : Int) (n : Nat) : List D := (List.range n).map fun (k : Nat) => D.int (i + (k : Int) * c)
theorem stepTo_drop {i c : Int} {n k : Nat} (h : k < n) : (stepTo i c n).drop k = .int (i + (k : Int) * c) :: (stepTo i c n).drop (k + 1) := by
  have e : (List.range n).drop k = k :: (List.range n).drop (k + 1) := by
    rw [List.drop_eq_getElem_cons (by simpa using h)]
    simp
  unfold stepTo
  rw [← List.map_drop, ← List.map_drop, e]
  rfl
noncomputable def rg3Ok (i j c : Int) : Bool := chk (c ≠ 0 ∧ c.natAbs < 1073741824 ∧ Builtin.Range.small i j c = true ∧ 0 ≤ Builtin.Range.rangeSize i j c)
noncomputable def sForR3 (f : M (List D)) (set : FG) (body : FS) : FS := fun e => match f e with
  | some ([.int i, .int j, .int c], e1) => bif rg3Ok i j c then loopF set body (stepTo i c (Builtin.Range.rangeSize i j c).toNat) e1 else none
  | _ => none
section
variable {X : Cx} {c : Ct} {tg a b d : Expr} {body : List Stmt} {pos p : Pos} {set : FG} {fb : FS}
theorem fs_forR3 {f : M (List D)} (hp : PassesOwn (model X.prog X.w) X.A X.env X.xe) (hc : X.calm = true) (hl : FA X c [a, b, d] f) (hg : FGt X c tg set) (hb : FSs X c body fb) (gl : Gl X "range") (hm : X.mg "range" = none)
    (hs : starEach [a, b, d] X.env = (false, eval a X.env) :: starEach [b, d] X.env := by rfl) {p2 : Pos} (hpl : (backTo p2 (starEach [b, d] X.env)).any (·.1) = false := by rfl)
    (hs2 : ∀ x, foldedSetIterable (.Call (.Name "range" p) [a, b, d] [] p2) X.env x = pure x := by intro _; rfl) : FSt X c (.For tg (.Call (.Name "range" p) [a, b, d] [] p2) body [] pos) (sForR3 f set fb) :=
  (ps_for hp hc (pi_range3 gl hm hl hs hpl) hg hb hs2).weak fun D' σ H ⟨S, env, o, E, e1, k⟩ => by
    unfold sForR3 at e1
    split at e1
    · rename_i i j st e2 q
      obtain ⟨hr, e1⟩ : rg3Ok i j st = true ∧ loopF set fb (stepTo i st (Builtin.Range.rangeSize i j st).toNat) e2 = some o := by
        cases hr : rg3Ok i j st with
        | false => rw [hr] at e1; cases e1
        | true => rw [hr] at e1; exact ⟨rfl, e1⟩
      obtain ⟨h1, h2, h3, h4⟩ := chk_of hr
      refine ⟨S, env, _, e2, E, q, fun S1 H1 vs E1 s1 r1 => ?_⟩
      cases r1 with
      | cons r1 rn => cases rn with
        | cons r2 rn => cases rn with
          | cons r3 rn =>
            cases rn; cases r1; cases r2; cases r3
            refine ⟨i, j, st, (Builtin.Range.rangeSize i j st).toNat, rfl, ⟨h1, h2, h3, (Int.toNat_of_nonneg h4).symm⟩, for_rangeC (lo := i) (c := st) (n := (Builtin.Range.rangeSize i j st).toNat) (fun k σ H => ∃ S2 e, Er X.K c S2 H σ e ∧ Same S1 S2 ∧ loopF set fb ((stepTo i st (Builtin.Range.rangeSize i j st).toNat).drop k) e = some o) ⟨S1, e2, E1, Same.refl _, by rw [List.drop_zero]; exact e1⟩ ?_ ?_⟩
            · rintro k' σ' H' hi ⟨S2, e, E2, s2, q2⟩
              rw [stepTo_drop hi] at q2
              exact loop_turn (S := S1) E2 s2 (.int _) q2 (fun S3 H3 σ3 e3 E3 s3 q3 => ⟨S3, e3, E3, s3, q3⟩) (k.mono s1)
            · rintro σ' H' ⟨S2, e, E2, s2, q2⟩
              rw [List.drop_eq_nil_of_le (by unfold stepTo; simp)] at q2
              cases q2
              exact k S2 H' σ' E2 (s1.trans s2)
    · cases e1
end
section
variable {X : Cx} {c : Ct} {pos : Pos}
/-- {i: j}, written ints -/
def mDic1 (i j : Int) : M D := fun e => some (.dic [(.inl i, .int j)], e)
theorem fo_dic1 {keys : List (Option Expr)} {values : List Expr} (i j : Int) (h : PPs X pos keys values [(tC (.int i), tC (.int j))]) (hall : keys.all (·.isSome) = true) (hl : keys.length = values.length) (h0 : keys ≠ []) (h15 : keys.length ≤ 15) :
    FO X c (.Dict keys values pos) (mDic1 i j) := (pe_disp h hall hl h0 h15).weak fun σ H Q ⟨S, env, d, env', E, e1, kk⟩ => by
  cases e1
  intro p hp
  refine ⟨upd_same, [(.inl i, .int j)], rfl, by simp, ?_⟩
  rw [upd_upd]
  refine kk S _ p (E.lay _ hp) (Same.refl _) ⟨[(.inl i, .int j)], upd_same, .cons (.int j) .nil⟩ (E.sub.free hp) ?_ fun j f e q z => ?_
  · cases ez : c.H0 p with
    | none => rfl
    | some o => exact absurd hp (E.dom p (by rw [ez]; exact fun z => nomatch z))
  · obtain ⟨p1, a1, o1, _⟩ := E.ow j f e q
    rw [a1] at z; cases z
    exact o1.there hp
end
end FL

set_option Elab.async false
set_option linter.all false
set_option maxRecDepth 100000
set_option maxHeartbeats 2000000
namespace FL
open PySem PySem.Spec PyProof.Rows L2

/-! ## stars in displays and calls -/
def seqD : D → Option (List D)
  | .lst xs => some xs
  | .tup xs => some xs
  | _ => none
def mStar (fa : M D) (fr : M (List D)) : M (List D) := fun e => match fa e with
  | some (d, e1) => (match seqD d with
    | some ds => (match fr e1 with
      | some (es, e2) => some (ds ++ es, e2)
      | none => none)
    | none => none)
  | none => none
theorem seq_rel {K : PySem.W.Frag} {S H : Hp} {d : D} {ds : List D} {v : V} (r : RelD K S d v) (h : seqD d = some ds) (hs : Same S H) : ∃ p vs, v = V.ref p ∧ (SqT K H p vs ∨ SqL K H p vs) ∧ RelDs K S ds vs := by
  cases r <;> first | (cases h; done) | skip
  · rename_i h1 rs; cases h; exact ⟨_, _, rfl, .inr (.of (hs _ _ h1)), rs⟩
  · rename_i h1 rs; cases h; exact ⟨_, _, rfl, .inl (h1.same hs).sq, rs⟩
section
variable {X : Cx} {c : Ct} {e : Expr} {es : List Expr} {k : Nat} {f : Addr} {φ : Fn} {cn x : Str} {p pos sp_ : Pos} {fe : M D} {fr : M (List D)}
theorem t_star (σ : L2.St) (H : Hp) (Q : List V → Hp → Prop) (h : tMs X.K c (mStar fe fr) σ H Q) : StX.tStar X.K (tM X.K c fe) (tMs X.K c fr) σ H Q := by
  obtain ⟨S, env, d, env', E, e1, k⟩ := h
  unfold mStar at e1
  split at e1
  · rename_i da ea qa
    split at e1
    · rename_i ds qs
      split at e1
      · rename_i zs ez qz
        cases e1
        refine ⟨S, env, da, ea, E, qa, fun S1 H1 v1 E1 s1 r1 => ?_⟩
        obtain ⟨p, vs, rfl, hsq, rs⟩ := seq_rel r1 qs E1.sub
        exact ⟨p, vs, rfl, hsq, S1, ea, zs, _, E1, qz, fun S2 H2 v2 E2 s2 r2 => k S2 H2 _ E2 (s1.trans s2) ((rs.mono s2).append r2)⟩
      · cases e1
    · cases e1
  · cases e1
theorem fa_star (he : FE X c e fe) (hr : FA X c es fr) (hs : starEach (.Starred e p :: es) X.env = (true, eval e X.env) :: starEach es X.env := by rfl) : FA X c (.Starred e p :: es) (mStar fe fr) :=
  (StX.pa_star he hr hs).weak t_star
/-- C(*e) -/
theorem pe_makeSt {CX : CXT} {C : Addr} {sp : Sp} {E : XK} {te : TE} (M : Mk X.K C f) (F : FnR X.prog X.w X.K X.mg X.base CX k f sp) (hr : Room (k + 1) X.A) (hg : Gl X x) (hm : X.mg x = some (.ref C)) (hx : Passes CX X E) (he : PE X e te) (hd : (x == ("__debug__" : Str)) = false := by decide)
    (hst : starEach [.Starred e sp_] X.env = [(true, eval e X.env)] := by rfl) : PE X (.Call (.Name x p) [.Starred e sp_] [] pos) (StX.tMakeR C sp E (StX.tStar X.K te tNil)) := by
  refine ⟨fun pins s σ H Q I h => ?_⟩
  refine wpAny_Call_Name_kw (ld_glob I hg hm ?_ hd)
  refine PySem.W.callWith_S (h₀ := X.base) I.ok.mod.kin M.kp (thn (he.run pins s σ H _ I h) fun v s1 ⟨y, H1, I1, ry, a, xs, ey, hxs, q⟩ => ?_) hst
  subst ey
  obtain rfl : v = Value.ref a := ry
  refine StX.star_any I1 hxs fun us s2 I2 rv => ⟨I2.kIn, ?_⟩
  exact StX.run_makeR (us := us) (vs := xs ++ []) M F hr hx I2 (by rw [List.append_nil]; exact rv) q
theorem fo_makeSt (M : Mk X.K (He.ga X.K cn) f) (F : FnR X.prog X.w X.K X.mg X.base CX0 k f (spS X.K φ)) (room : Room (k + 1) X.A) (gl : Gl X x) (hm : X.mg x = some (.ref (He.ga X.K cn))) (he : FE X c e fe)
    (hd : (x == ("__debug__" : Str)) = false := by decide) (hst : starEach [.Starred e sp_] X.env = [(true, eval e X.env)] := by rfl) : FO X c (.Call (.Name x p) [.Starred e sp_] [] pos) (mMakeS cn φ (mStar fe mNil)) :=
  (pe_makeSt M F room gl hm pass0 he hd hst).weak fun σ H Q h => by
    have h1 := t_makeS M σ H Q h
    have h2 := t_star σ H _ h1
    obtain ⟨S, env, d, env', E, e1, kk⟩ := h2
    refine ⟨S, env, d, env', E, e1, fun S1 H1 v E1 s1 r1 => ?_⟩
    obtain ⟨p, xs, ev, hx, S2, env2, ds, env3, E2, q2, k2⟩ := kk S1 H1 v E1 s1 r1
    cases q2
    exact ⟨p, xs, ev, hx, k2 S2 H1 [] E2 (Same.refl _) .nil⟩
end

/-! ## None -/
def isNonD : D → Bool
  | .non => true
  | _ => false
def gIsN : D → Option D := fun d => some (.bl (isNonD d))
def gNotN : D → Option D := fun d => some (.bl (!isNonD d))
theorem non_vw {K : PySem.W.Frag} {S H : Hp} {d : D} {v : V} (w : Vw K S H d v) : decide (v = V.non) = isNonD d := by
  rcases w with w | ⟨p, rfl, w⟩
  · cases w <;> first | rfl | exact decide_eq_false (fun z => nomatch z)
  · cases d <;> first | exact w.elim | exact decide_eq_false (fun z => nomatch z)
section
variable {X : Cx} {c : Ct} {a b : Expr} {pos pos' : Pos} {fa : M Hd} {j}
theorem t_isN (g : D → Option D) (r : V → Bool) (hr : ∀ (S H : Hp) (d z : D) (v : V), g d = some z → Vw X.K S H d v → z = .bl (r v)) (σ : L2.St) (H : Hp) (Q : VK) (h : tM X.K c (m1H g fa) σ H Q) : tOp (fun x y H Q => y = .non ∧ Q (.bl (r x)) H) (tH X.K c fa) (tC .non) σ H Q := by
  obtain ⟨S, env, d, env', E, e1, k⟩ := h
  unfold m1H at e1
  split at e1
  · cases e1
  · rename_i da ea qa
    split at e1
    · cases e1
    · rename_i a' q1
      split at e1
      · cases e1
      · rename_i z qz
        cases e1
        refine ⟨S, env, da, _, E, qa, fun S1 H1 v1 E1 s1 r1 => ⟨rfl, ?_⟩⟩
        have := hr S1 H1 a' _ v1 qz (view E1 r1 q1)
        subst this
        exact k S1 H1 _ E1 s1 (.bl _)
theorem f_isN (ha : FH X c a fa) (hm : behindInMarks .Is (.Constant .none j pos') = false := by rfl) : FE X c (.Compare a [.Is] [.Constant .none j pos'] pos) (m1H gIsN fa) :=
  (pe_cmpR op_isN ha pe_non hm).weak (t_isN gIsN (fun v => decide (v = V.non)) fun S H d z v q w => by cases q; rw [non_vw w])
theorem f_notN (ha : FH X c a fa) (hm : behindInMarks .IsNot (.Constant .none j pos') = false := by rfl) : FE X c (.Compare a [.IsNot] [.Constant .none j pos'] pos) (m1H gNotN fa) :=
  (pe_cmpR op_notN ha pe_non hm).weak (t_isN gNotN (fun v => !decide (v = V.non)) fun S H d z v q w => by cases q; rw [non_vw w])
end

/-! ## in, not in: a list of data -/
noncomputable def gInL (n : Bool) : D → D → Option D := fun d e => match toP d, e with
  | some p, .lst xs => (match toPs xs with
    | some ps => bif eqOk p (.list ps) then some (.bl (n != ps.any fun z => PyData.eqv z p)) else none
    | none => none)
  | _, _ => none
section
variable {K : PySem.W.Frag}
theorem inL_of {n : Bool} {S H : Hp} {d e z : D} {x y : V} (q : gInL n d e = some z) (hd : Vw K S H d x) (he : Vw K S H e y) (hs : Same S H) :
    ∃ p ps, Dp K H x p ∧ Dp K H y (.list ps) ∧ SeqAt.shaped p = true ∧ SeqAt.shaped (.list ps) = true ∧ z = .bl (n != ps.any fun z => PyData.eqv z p) := by
  unfold gInL at q
  split at q
  · rename_i p xs q1
    split at q
    · rename_i ps q2
      obtain ⟨ok, rfl⟩ := bif_some q
      obtain ⟨s1, s2⟩ := chk_of ok
      refine ⟨p, ps, dp_of d p x q1 (SeqAt.canLay_of_shaped s1) (hd.rel hs), dp_of (.lst xs) (.list ps) y ?_ (SeqAt.canLay_of_shaped s2) (he.rel hs), s1, s2, rfl⟩
      unfold toP; rw [q2]
    · cases q
  · cases q
theorem o2_inL : Op2 K (rInD K) (gInL false) := by
  intro S H d e z x y Q q hd he hs kv ka
  obtain ⟨p, ps, a, b, s1, s2, rfl⟩ := inL_of q hd he hs
  exact ⟨p, ps, a, b, s1, s2, by have := kv _ (.bl _); simpa using this⟩
theorem o2_notInL : Op2 K (rNotInD K) (gInL true) := by
  intro S H d e z x y Q q hd he hs kv ka
  obtain ⟨p, ps, a, b, s1, s2, rfl⟩ := inL_of q hd he hs
  exact ⟨p, ps, a, b, s1, s2, by have := kv _ (.bl _); simpa using this⟩
end
section
variable {X : Cx} {c : Ct} {a b : Expr} {pos : Pos} {fa fb : M Hd} {k : Nat}
theorem f_inL (room : Room k X.A) (ha : FH X c a fa) (hb : FH X c b fb) (hm : behindInMarks .In b = false := by rfl) : FE X c (.Compare a [.In] [b] pos) (m2H (gInL false) fa fb) := f_cmp (op_inD (by have := room.un; omega)) o2_inL ha hb hm
theorem f_notInL (room : Room k X.A) (ha : FH X c a fa) (hb : FH X c b fb) (hm : behindInMarks .NotIn b = false := by rfl) : FE X c (.Compare a [.NotIn] [b] pos) (m2H (gInL true) fa fb) := f_cmp (op_notInD (by have := room.un; omega)) o2_notInL ha hb hm
end

/-! ## insert -/
def sInsert (i : Nat) (fi fv : M D) : FS := fun e => match e[i]? with
  | some (.ow _ (.lst _)) => (match fi e with
    | some (.int n, e1) => (match fv e1 with
      | some (d, e2) => (match e2[i]? with
        | some (.ow f (.lst ds)) => if ds.length < 1000000 ∧ 0 ≤ n ∧ n < 1000000 then some (.nx (e2.set i (.ow f (.lst (ds.take n.toNat ++ [d] ++ ds.drop n.toNat))))) else none
        | _ => none)
      | none => none)
    | _ => none)
  | _ => none
section
variable {X : Cx} {c : Ct} {e1 e2 : Expr} {pos apos cpos px : Pos} {i : Nat} {x : Str} {fi fv : M D}
theorem fs_insert (hi : PE X (.Name x px) (tVar i)) (hf : FE X c e1 fi) (hv : FE X c e2 fv) (hbase : attributeBase (.Name x px) "insert" X.env (eval (.Name x px) X.env) = eval (.Name x px) X.env := by rfl)
    (hfew : ((backTo cpos (starEach [e1, e2] X.env)).all (fun x => !x.1) && (backToKw cpos (keywordEach [] X.env)).all (fun x => x.1.isSome) && decide (([e1, e2] : List Expr).length + ([] : List Keyword).length + (if ([] : List Keyword).isEmpty then 0 else 1) < 30)) = true := by rfl)
    (hline : (apos.endLine == cpos.line) = true := by rfl) (hs : starEach [e1, e2] X.env = (false, eval e1 X.env) :: starEach [e2] X.env := by rfl) (hs2 : starEach [e2] X.env = (false, eval e2 X.env) :: starEach [] X.env := by rfl) (hpl : (backTo cpos (starEach ([e2] : List Expr) X.env)).any (·.1) = false := by rfl)
    (hsw : swapsWith (.Call (.Attribute (.Name x px) "insert" apos) [e1, e2] [] cpos) none pos.line X.env = pure false := by rfl) : FSt X c (.Expr (.Call (.Attribute (.Name x px) "insert" apos) [e1, e2] [] cpos) pos) (sInsert i fi fv) :=
  (ps_expr (pe_bm PySem.F.plainAttrs_list PySem.F.slot_list_insert PySem.F.type_list_insert (mt_insert (X := X)) hi (pa_cons hf (pa_cons hv pa_nil hs2) hs) hbase hfew hline hs hpl) hsw).weak fun D' σ H ⟨S, env, o, E, q0, k⟩ => by
    unfold sInsert at q0
    split at q0
    · rename_i f0 ds0 qi
      split at q0
      · rename_i n e3 q1
        split at q0
        · rename_i d e4 q2
          split at q0
          · rename_i f ds q3
            split at q0
            · rename_i hz
              cases q0
              obtain ⟨p, a, ⟨vs0, hp0, _⟩, _, _⟩ := E.ow i f0 _ qi
              refine ⟨_, a, .inl ⟨rfl, vs0, .of hp0⟩, S, env, _, e3, E, q1, fun S1 H1 v1 E1 s1 r1 => ⟨S1, e3, d, e4, E1, q2, fun S2 H2 v2 E2 s2 r2 => ?_⟩⟩
              cases r1
              obtain ⟨p', a', ⟨vs, hp, rs⟩, z, w⟩ := E2.ow i f _ q3
              rw [a] at a'; cases a'
              have h63 : n < 2 ^ 63 := Int.lt_trans hz.2.2 (by decide)
              refine ⟨p, vs, n, v2, rfl, rfl, hp, by rw [← rs.length]; exact big1000000 hz.1, hz.2.1, h63, ?_⟩
              exact k S2 _ σ (E2.chg q3 a (fun b hb => upd_ne hb) ⟨_, upd_same, ((rs.take _).append (.cons r2 .nil)).append (rs.drop _)⟩) (s1.trans s2)
            · cases q0
          · cases q0
        · cases q0
      · cases q0
    · cases q0
end
end FL

set_option Elab.async false
set_option linter.all false
set_option maxRecDepth 100000
set_option maxHeartbeats 2000000
namespace FL
open PySem PySem.Spec PyProof.Rows L2

/-! ## what an own class has beside its methods -/
structure ClsF (K : PySem.W.Frag) (cn : Str) : Prop where
  ha : PySem.W.findIn K (.ref (He.ga K cn)) "__class__" = some (some (.builtin "object.__class__"))
  hn : PySem.W.specialIn K (.builtin "object.__class__") "__get__" = some (some (.builtin "getset_descriptor.__get__"))
  htk : PySem.W.takesIn K (.builtin "object.__class__") = some true
  hm : PySem.W.mroIn K (He.ga K cn) (.type "object") = some true
  me : PySem.W.kitOne K (.ref (He.ga K cn)) (.ref (He.ga K cn)) = some true
  no : ∀ t ∈ kits, PySem.W.kitOne K (.type t) (.ref (He.ga K cn)) = some false
  sb : ∀ t ∈ kits, PySem.W.subIn K (.type t) (.ref (He.ga K cn)) = some false
  ne : PySem.W.findIn K (.ref (He.ga K cn)) "__ne__" = some (some (.builtin "object.__ne__"))
def clsB (K : PySem.W.Frag) (cn : Str) : Bool :=
  decide (PySem.W.findIn K (.ref (He.ga K cn)) "__class__" = some (some (.builtin "object.__class__"))) && (decide (PySem.W.specialIn K (.builtin "object.__class__") "__get__" = some (some (.builtin "getset_descriptor.__get__"))) &&
  (decide (PySem.W.takesIn K (.builtin "object.__class__") = some true) && (decide (PySem.W.mroIn K (He.ga K cn) (.type "object") = some true) && (decide (PySem.W.kitOne K (.ref (He.ga K cn)) (.ref (He.ga K cn)) = some true) &&
  (kits.all (fun t => decide (PySem.W.kitOne K (.type t) (.ref (He.ga K cn)) = some false)) && (kits.all (fun t => decide (PySem.W.subIn K (.type t) (.ref (He.ga K cn)) = some false)) &&
  decide (PySem.W.findIn K (.ref (He.ga K cn)) "__ne__" = some (some (.builtin "object.__ne__")))))))))
theorem clsB_ok {K : PySem.W.Frag} {cn : Str} (h : clsB K cn = true) : ClsF K cn := by
  obtain ⟨a1, h⟩ := and_both h
  obtain ⟨a2, h⟩ := and_both h
  obtain ⟨a3, h⟩ := and_both h
  obtain ⟨a4, h⟩ := and_both h
  obtain ⟨a5, h⟩ := and_both h
  obtain ⟨a6, h⟩ := and_both h
  obtain ⟨a7, a8⟩ := and_both h
  exact ⟨of_decide_eq_true a1, of_decide_eq_true a2, of_decide_eq_true a3, of_decide_eq_true a4, of_decide_eq_true a5,
    fun t ht => of_decide_eq_true (List.all_eq_true.mp a6 t ht), fun t ht => of_decide_eq_true (List.all_eq_true.mp a7 t ht), of_decide_eq_true a8⟩

/-! ## o.m(e, ..) -/
def mMeth (cn m : Str) (φ : Fn) (fa : M D) (fr : M (List D)) : M D := fun e => match fa e with
  | some (.obj c fs, e1) => if c = cn ∧ fs.lookup m = none then (match fr e1 with
    | some (ds, e2) => (match φ (.sh (.obj c fs) :: ds.map .sh) with
      | some (r, _) => some (r, e2)
      | none => none)
    | none => none) else none
  | _ => none
theorem RelFs.lookup_none {K : PySem.W.Frag} {S : Hp} {f : Str} : ∀ {ds : List (Str × D)} {vs : List (Str × V)}, RelFs K S ds vs → ds.lookup f = none → vs.lookup f = none
  | _, _, .nil, _ => rfl
  | _, _, .cons (k := k) h r, e => by
    rw [List.lookup_cons] at e ⊢
    split at e
    · cases e
    · rename_i q
      exact RelFs.lookup_none r e
section
variable {X : Cx} {c : Ct} {k : Nat} {f : Addr} {fd : FuncData} {ps : List Str} {φ : Fn} {cn m : Str} {o e : Expr} {es : List Expr} {pos apos : Pos} {fa : M D} {fr : M (List D)}
theorem t_meth (σ : L2.St) (H : Hp) (Q : VK) (h : tM X.K c (mMeth cn m φ fa fr) σ H Q) : tMeth (He.ga X.K cn) m (spF X.K φ) [] E0 (tM X.K c fa) (tMs X.K c fr) σ H Q := by
  obtain ⟨S, env, d, env', E, e1, kk⟩ := h
  unfold mMeth at e1
  split at e1
  · rename_i c1 fs ea qa
    split at e1
    · rename_i hc
      obtain ⟨rfl, hl⟩ := hc
      split at e1
      · rename_i ds e2 qr
        split at e1
        · rename_i r e3 q2
          cases e1
          refine ⟨S, env, _, ea, E, qa, fun S1 H1 v1 E1 s1 r1 => ?_⟩
          have r1' := r1
          cases r1 with
          | obj h1 rf =>
            refine ⟨_, _, _, rfl, E1.sub _ _ h1, RelFs.lookup_none rf hl, S1, ea, ds, _, E1, qr, fun S2 H2 vs E2 s2 r2 => ?_⟩
            show spF X.K φ (V.ref _ :: (vs ++ [])) H2 Q E0
            rw [List.append_nil]
            refine ⟨_, S2, _, _, _, ER.args (ds := _ :: ds) (vs := _ :: vs) E2.sub (.cons (r1'.mono s2) r2), q2, fun S3 H3 v E3 s3 r3 => ?_⟩
            exact kk S3 H3 v (E2.grow E3.s0 E3.sub E3.dom (fun b o z => E3.kep b o z fun _ z => nomatch z) E3.frs) ((s1.trans s2).trans s3) r3
        · cases e1
      · cases e1
    · cases e1
  · cases e1
theorem f_meth {pl : Sem Bool} (ha : FE X c o fa) (cl : Cls X.K (He.ga X.K cn)) (hm : Meth X.K (He.ga X.K cn) m f) (F : FnOk X.prog X.w X.K X.mg X.base CX0 k f fd ps (spF X.K φ)) (room : Room k X.A) (hb : Binds X.K fd ps []) (hr : FA X c (e :: es) fr)
    (hst : starEach (e :: es) X.env = (false, eval e X.env) :: starEach es X.env := by rfl) (hpl : (backTo pos (starEach es X.env)).any (·.1) = false := by rfl)
    (ht : eval (.Call (.Attribute o m apos) (e :: es) [] pos) X.env = (do
      let ov ← eval o X.env
      standAt apos.atName
      let (f, first) ← holding [ov] (getMethod ov m pl)
      callWith pos f first (backTo pos (starEach (e :: es) X.env)) (backToKw pos (keywordEach [] X.env))) := by rfl) :
    FE X c (.Call (.Attribute o m apos) (e :: es) [] pos) (mMeth cn m φ fa fr) := (pe_meth ha cl hm F room hb .nil pass0 hr hst hpl ht).weak t_meth
theorem f_meth0 {pl : Sem Bool} (ha : FE X c o fa) (cl : Cls X.K (He.ga X.K cn)) (hm : Meth X.K (He.ga X.K cn) m f) (F : FnOk X.prog X.w X.K X.mg X.base CX0 k f fd ps (spF X.K φ)) (room : Room k X.A) (hb : Binds X.K fd ps [])
    (ht : eval (.Call (.Attribute o m apos) [] [] pos) X.env = (do
      let ov ← eval o X.env
      standAt apos.atName
      let (f, first) ← holding [ov] (getMethod ov m pl)
      callWith pos f first (backTo pos (starEach [] X.env)) (backToKw pos (keywordEach [] X.env))) := by rfl) :
    FE X c (.Call (.Attribute o m apos) [] [] pos) (mMeth cn m φ fa mNil) := (pe_meth0 ha cl hm F room hb .nil pass0 ht).weak fun σ H Q h => by
    obtain ⟨S, env, d, env', E, q, kk⟩ := t_meth σ H Q h
    refine ⟨S, env, d, env', E, q, fun S1 H1 v E1 s1 r1 => ?_⟩
    obtain ⟨a, dx, fs, ev, hi, hl, S2, env2, ds, env3, E2, q2, k2⟩ := kk S1 H1 v E1 s1 r1
    cases q2
    exact ⟨a, dx, fs, ev, hi, hl, k2 S2 H1 [] E2 (Same.refl _) .nil⟩
end

/-! ## a property that makes a new object -/
section
variable {P : Program} {w : World} {K : PySem.W.Frag} {mg : Str → Option Value} {base : Heap} {k : Nat} {f : Addr} {name qual : Str} {params : Arguments} {body : List Stmt} {scope : Scope} {dvs : List V} {kws : List (Str × V)} {fd : FuncData} {N ps : List Str}
theorem walkFO {fb : FS} {X : Cx} (S0 : ∀ c, FSs X.nox c body fb) (hN : X.N = N) {vs : List V} {H : Hp} {Q : VK} {E : XK} (h : spO K (mkFnO N.length ps.length fb) vs H Q E) (hK : X.K = K) :
    ∃ t, PSs X body t ∧ t { nx := fun _ H' => Q .non H', rt := Q } (start N vs) H := by
  subst hK
  obtain ⟨L, S, env, d, env', E1, q, kk⟩ := h
  refine ⟨_, PSs.nox (S0 ⟨L, S, H⟩), ?_⟩
  unfold mkFnO at q
  split at q
  · rename_i hl
    rw [← hl] at q
    split at q
    · rename_i d' e q2
      obtain ⟨hz, rfl, rfl⟩ := endF_some q
      exact ⟨S, _, _, E1.start, q2, fun S' H' σ' p E' s' o' a' b' => kk S' H' p (ER.finish E1 E' hz) s' o' a' b'⟩
    · cases q
  · cases q
theorem def_okNO {fb : FS} (F : FunD K name qual params body scope dvs kws f fd) (Sc : FnScope N ps scope)
    (walk : ∀ (cdv : Value) (A : Around) (outer : List Env) (s : Shared) (H : Hp) (E : XK) (c : Ct), Room k (A.deeper (envOfC qual scope s.heap.objs.size f cdv)) →
      FSs (cxOf CX0 P w K mg base N qual scope f cdv A outer s H E).nox c body fb) :
    FnOk P w K mg base CX0 (k + 1) f fd ps (spO K (mkFnO N.length ps.length fb)) :=
  F.ok Sc (fun vs H Q E h => spO_len vs H Q E h) fun cdv A outer s H vs Q E room h =>
    walkFO (fun c => walk cdv A outer s H E c room) rfl h rfl
end
section
variable {X : Cx} {c : Ct} {k : Nat} {f : Addr} {φ : Fn} {cn : Str} {e : Expr} {pos : Pos}
/-- what a call of such a def leaves -/
theorem out_spO {σ : L2.St} {S1 H1 : Hp} {env : En} {vs : List V} {ds : List D} {d : D} {e3 : En} {Q : VK} (E1 : Er X.K c S1 H1 σ env) (r : RelDs X.K S1 ds vs) (q : φ (ds.map .sh) = some (d, e3))
    (kk : ∀ S' H' p, Er X.K c S' H' σ env → Same S1 S' → OwnAt X.K S' H' d p → S' p = none → c.H0 p = none → (∀ (j : Nat) (f : Bool) (e : D), env[j]? = some (.ow f e) → σ[j]? ≠ some (some (.ref p))) → Q (.ref p) H') : spO X.K φ vs H1 Q E0 := by
  refine ⟨_, S1, _, _, _, ER.args E1.sub r, q, fun S2 H2 v E2 s2 o2 z2 n2 => ?_⟩
  refine kk S2 H2 v (E1.grow E2.s0 E2.sub E2.dom (fun b o z => E2.kep b o z fun _ z => nomatch z) E2.frs) s2 o2 z2 ?_ fun j f e q z => ?_
  · cases ez : c.H0 v with
    | none => rfl
    | some o => exact absurd n2 (E1.dom v (by rw [ez]; exact fun z => nomatch z))
  · obtain ⟨p1, a1, o1, _⟩ := E1.ow j f e q
    rw [a1] at z; cases z
    exact o1.there n2
theorem fo_prop {fd : FuncData} {ps : List Str} {fe : M D} {pr : Addr} {g : Str} (ha : FE X c e fe) (cl : Cls X.K (He.ga X.K cn)) (hp : PropOf X.K (He.ga X.K cn) g pr f) (F : FnOk X.prog X.w X.K X.mg X.base CX0 k f fd ps (spO X.K φ)) (room : Room (k + 1) X.A) (hb : Binds X.K fd ps [])
    (hab : attributeBase e g X.env (eval e X.env) = eval e X.env := by rfl) : FO X c (.Attribute e g pos) (mProp cn φ fe) := (pe_prop ha cl hp F room hb .nil (E := E0) pass0 hab).weak fun σ H Q ⟨S, env, d, env', E, e1, kk⟩ => by
  unfold mProp at e1
  split at e1
  · rename_i c' fs e2 q
    split at e1
    · rename_i hc
      subst hc
      split at e1
      · rename_i r e3 q2
        cases e1
        refine ⟨S, env, _, _, E, q, fun S1 H1 v E1 s1 r1 => ?_⟩
        have r1' := r1
        cases r1 with
        | obj h r =>
          exact ⟨_, _, _, rfl, E1.sub _ _ h, out_spO (ds := [_]) E1 (.cons r1' .nil) q2 fun S' H' p E' s' => kk S' H' p E' (s1.trans s')⟩
      · cases e1
    · cases e1
  · cases e1
end

/-! ## isinstance against an own class -/
def gIsiO (cn : Str) : D → Option D
  | .obj c _ => if c = cn then some (.bl true) else none
  | .kls _ => none
  | _ => some (.bl false)
section
variable {X : Cx} {c : Ct} {e : Expr} {p p2 pos : Pos} {fa : M Hd} {cn y : Str}
theorem f_isiO (cf : ClsF X.K cn) (cl : Cls X.K (He.ga X.K cn)) (ha : FH X c e fa) (hg : Gl X "isinstance") (hm : X.mg "isinstance" = none) (hgT : Gl X y) (hmT : X.mg y = some (.ref (He.ga X.K cn))) (hdb : (y == ("__debug__" : Str)) = false := by decide)
    (he : starEach [e, .Name y p2] X.env = (false, eval e X.env) :: starEach [.Name y p2] X.env := by rfl) (he2 : starEach [.Name y p2] X.env = (false, eval (.Name y p2) X.env) :: starEach [] X.env := by rfl) (hpl : (backTo pos (starEach ([.Name y p2] : List Expr) X.env)).any (·.1) = false := by rfl) :
    FE X c (.Call (.Name "isinstance" p) [e, .Name y p2] [] pos) (m1H (gIsiO cn) fa) :=
  (pe_callB call_isi hg hm (by decide +kernel) (pa_cons ha (pa_cons (pe_glob (v := .ref (He.ga X.K cn)) hgT hmT rfl hdb) pa_nil he2) he) (by decide) (by decide) he hpl).weak fun σ H Q h => by
    obtain ⟨S, env, d, env', E, e1, k⟩ := h
    unfold m1H at e1
    split at e1
    · cases e1
    · rename_i da ea qa
      split at e1
      · cases e1
      · rename_i a' q1
        split at e1
        · cases e1
        · rename_i zz qz
          obtain ⟨rfl, rfl⟩ : zz = d ∧ ea = env' := by cases e1; exact ⟨rfl, rfl⟩
          refine ⟨S, env, da, _, E, qa, fun S1 H1 v1 E1 s1 r1 => ?_⟩
          have w := view E1 r1 q1
          cases ho : isObjD a' with
          | false =>
            have hz : zz = .bl false := by
              cases a' <;> first | (cases ho; done) | (cases qz; rfl)
            subst hz
            exact ⟨v1, .ref (He.ga X.K cn), _, _, _, rfl, .own _, tyX_of w E1.sub ho, cf.no _ (kind_in a' ho), k S1 H1 _ E1 s1 (.bl _)⟩
          | true =>
            cases a' with
            | obj cc fs =>
              unfold gIsiO at qz
              split at qz
              · rename_i hq1
                cases hq1
                split at qz
                · rename_i hcn
                  subst hcn
                  cases qz
                  obtain ⟨a, dx, vs, rfl, hi, _⟩ := w.obj E1.sub
                  exact ⟨_, .ref (He.ga X.K cc), _, _, _, rfl, .own _, .base (.ins hi cl cf.ha cf.hn cf.htk cf.hm), cf.me, k S1 H1 _ E1 s1 (.bl _)⟩
                · cases qz
              · cases qz
              · rename_i hh _
                exact absurd rfl (hh cc fs)
            | kls n => cases qz
            | _ => cases ho
end
end FL

set_option Elab.async false
set_option linter.all false
set_option maxRecDepth 100000
set_option maxHeartbeats 2000000
namespace FL
open PySem PySem.Spec PyProof.Rows L2

/-! ## the type of a value, looked up -/
theorem looks_ty {M : Model} {s : Shared} {v : Value} {T : String} (h : s.TypeIs v T) : PySem.W.Looks M s.heap (typeOf v) (.type T) := by
  cases v with
  | ref a =>
    obtain ⟨o, ho, hc⟩ := h
    exact hc ▸ (PySem.W.Looks.ld ho).andThen .now
  | _ => exact PySem.W.Looks.of_pure h
section
variable {X : Cx} {pins : List (Addr × Obj)} {σ : L2.St} {S H : Hp} {s : Shared}
theorem type_of {d : D} {x : V} {u : Value} (I : Inv X pins σ H s) (rx : RelV x u) (w : Vw X.K S H d x) (hs : Same S H) (h : isObjD d = false) : s.TypeIs u (kindN d) := by
  cases d with
  | non => rcases w with w | ⟨p, _, w⟩; (cases w; cases (show u = Value.none from rx); exact (rfl : typeOf Value.none = _)); exact w.elim
  | bl b => rcases w with w | ⟨p, _, w⟩; (cases w; cases (show u = Value.bool b from rx); exact (rfl : typeOf (Value.bool b) = _)); exact w.elim
  | int i => rcases w with w | ⟨p, _, w⟩; (cases w; obtain ⟨t, q⟩ := (show ∃ t, u = Value.int i t from rx); cases q; exact (rfl : typeOf (Value.int i t) = _)); exact w.elim
  | str y => rcases w with w | ⟨p, _, w⟩; (cases w; obtain ⟨t, q⟩ := (show ∃ t, u = Value.str y t from rx); cases q; exact (rfl : typeOf (Value.str y t) = _)); exact w.elim
  | lst xs =>
    obtain ⟨a, vs, rfl, h, _⟩ := w.lst hs
    cases (show u = Value.ref a from rx)
    obtain ⟨_, _, n, _, h1⟩ := (show ObjOk X.prog X.w H s.heap a (.lst vs) from I.hok a _ h)
    exact ⟨_, h1, rfl⟩
  | tup xs =>
    obtain ⟨a, vs, rfl, h, _⟩ := w.tup hs
    cases (show u = Value.ref a from rx)
    rcases h with h | ⟨o, its, n, k, hc, _⟩
    · obtain ⟨_, _, _, o, h1, h2, _⟩ := (show ObjOk X.prog X.w H s.heap a (.tup vs) from I.hok a _ h)
      exact ⟨o, h1, h2⟩
    · exact ⟨o, I.kIn a o k, hc⟩
  | dic xs =>
    obtain ⟨a, vs, rfl, h, _⟩ := w.dic hs
    cases (show u = Value.ref a from rx)
    obtain ⟨_, _, ws, _, o, es, ep, h1, h2, _⟩ := (show ObjOk X.prog X.w H s.heap a (.dK vs) from I.hok a _ h)
    exact ⟨o, h1, h2.1⟩
  | obj n xs => cases h
  | kls n => cases h
  | scr ns =>
    rcases w with w | ⟨p, _, w⟩
    · cases w with
      | scr h =>
        cases rx
        rcases hs.seq h with (h | ⟨o, h⟩) | ⟨o, its, n, k, hc, _⟩
        · obtain ⟨_, _, n, _, h1⟩ := (show ObjOk X.prog X.w H s.heap _ (.lst _) from I.hok _ _ h)
          exact ⟨_, h1, rfl⟩
        · obtain ⟨_, _, _, n, _, h1⟩ := (show ObjOk X.prog X.w H s.heap _ (.frz o (.lst _)) from I.hok _ _ h)
          exact ⟨_, h1, rfl⟩
        · exact ⟨o, I.kIn _ o k, hc⟩
    · exact w.elim
end

/-! ## o == e, o != e by an own __eq__ -/
/-- the right side: an instance of the same class, or data -/
def rOk (cn : Str) : D → Bool
  | .obj c _ => decide (c = cn)
  | .kls _ => false
  | _ => true
/-- .. as a value -/
def RtOk (K : PySem.W.Frag) (H : Hp) (cn : Str) (y : V) : Prop := (∃ b dy gs, y = .ref b ∧ H b = some (.ins (He.ga K cn) dy gs)) ∨ ∃ S d, isObjD d = false ∧ Same S H ∧ Vw K S H d y
def rCmpO (cn : Str) (K : PySem.W.Frag) (φ : Fn) (n : Bool) : R2 := fun x y H Q => ∃ a dx fs, x = .ref a ∧ H a = some (.ins (He.ga K cn) dx fs) ∧ RtOk K H cn y ∧ spF K φ [x, y] H (fun v H' => ∃ b, v = .bl b ∧ Q (.bl (n != b)) H') E0
section
variable {M : Model} {prog : Program} {w : World} {A : Around} {E : Value → Shared → Prop} {s : Shared} {K : PySem.W.Frag} {x C f : Addr} {ox : Obj} {od : Option Obj} {b : Value} {tb : Value}
theorem ifBound_ne {args : List Value} {Q : Option Value → Shared → Prop} (X : K.In s.heap) (I : PySem.W.InstAt s.heap x ox C od) (hs : PySem.W.findIn K (.ref C) "__ne__" = some (some (.builtin "object.__ne__")))
    (h : wpAny M A (call (.builtin "object.__ne__") (.ref x :: args)) (fun v => Q (some v)) E s) : wpAny M A (callSpecialIfBound? (.ref x) "__ne__" args) Q E s := by
  simp only [callSpecialIfBound?, bindSpecialIfBound?]
  refine wpAny_holding (wpAny_bind (wpAny_bind (wpAny_bind (I.type.here ((PySem.W.looks_findIn X hs).here ?_)))))
  refine wpAny_bind (wpAny_askSetting (wpAny_ite ?_))
  have fin : wpAny M A (call (.builtin "object.__ne__") ([.ref x] ++ args) >>= fun v => pure (some v)) Q E s := wpAny_bind (wpAny_mono h (fun v s' h' => wpAny_pure h') fun _ _ h' => h')
  split
  · exact wpAny_bind (wpAny_of_eq (F.cmp_object.ne.bind _) (wpAny_pure (by exact fin)))
  · exact wpAny_tryCatch (wpAny_bind (wpAny_of_eq (F.cmp_object.ne.bind _) (wpAny_pure (by exact fin))))
theorem objNe_entry {Q : Fin → Shared → Prop} (hu : A.units < cLine) (X : K.In s.heap) (I : PySem.W.InstAt s.heap x ox C od) (he : PySem.W.findIn K (.ref C) "__eq__" = some (some (.ref f))) (hf : PySem.W.isFn K (.ref f) = true)
    (h : wpAny M A (call (.ref f) [.ref x, b]) (fun r s' => ∃ c, r = .bool c ∧ Q (.done (.ret (.bool !c))) s') E s) : wpAny M A (Builtin.«object.__ne__» ⟨[.ref x, b], []⟩) Q E s := by
  unfold Builtin.«object.__ne__»
  refine wpAny_bind (wpAny_of_eq (a := (Value.ref x, [b])) (by first | rfl | kernel_rfl) ?_)
  try dsimp only
  refine wpAny_bind (wpAny_cRoomFor hu ?_)
  refine wpAny_bind (PySem.W.ifBound_K X I he hf (wpAny_mono h (fun r s' q => ?_) fun _ _ z => z))
  obtain ⟨c, rfl, q⟩ := q
  try dsimp only
  refine wpAny_bind (wpAny_truthy_bool ?_)
  exact wpAny_pure q
theorem ne_own {Q : Value → Shared → Prop} (hu : A.units + 1 < cLine) (X : K.In s.heap) (I : PySem.W.InstAt s.heap x ox C od) (hb : PySem.W.Looks (model prog w) s.heap (typeOf b) tb) (hn : PySem.W.notFirst K C tb = true) (hm : PySem.W.mroIn K C (.type "object") = some true)
    (hne : PySem.W.findIn K (.ref C) "__ne__" = some (some (.builtin "object.__ne__"))) (he : PySem.W.findIn K (.ref C) "__eq__" = some (some (.ref f))) (hf : PySem.W.isFn K (.ref f) = true)
    (h : wpAny (model prog w) A.in1 (call (.ref f) [.ref x, b]) (fun r s' => ∃ c, r = .bool c ∧ Q (.bool !c) s') E s) : wpAny (model prog w) A (richCompare .NotEq (.ref x) b) Q E s := by
  have one : wpAny (model prog w) A (tryCompare (.ref x) "__ne__" b) (fun r s' => ∃ v, r = some v ∧ Q v s') E s := by
    unfold tryCompare
    refine wpAny_bind (ifBound_ne X I hne (wpAny_call (codeAny_call_builtin F.cmp_object.ne.plain F.cmpEntry_ne (PySem.W.check_slot F.cmpKind_ne F.cmpSplit_ne (I.type.andThen (PySem.W.looks_mroIn X hm)) (F.cmpArgs_ne _ _)
      (objNe_entry (A := A.in1) hu X I he hf (wpAny_mono h (fun r s' q => ?_) fun _ _ z => z))))))
    obtain ⟨c, rfl, q⟩ := q
    exact ⟨c, rfl, wpAny_pure ⟨_, rfl, q⟩⟩
  unfold richCompare
  simp only [oneThing_ref]
  refine wpAny_holding (wpAny_bind (wpAny_cRoomFor (by omega) ?_))
  refine wpAny_bind (I.type.here (wpAny_bind (hb.here ?_)))
  have one' : wpAny (model prog w) A (tryCompare (.ref x) (cmpInfo .NotEq).2.1 b) (fun r s' => ∃ v, r = some v ∧ Q v s') E s := one
  split
  · rename_i q
    have e : PySem.W.subIn K tb (.ref C) = some false := by
      rcases Bool.or_eq_true_iff.mp hn with e | e
      · rw [beq_iff_eq.mp e] at q; simp at q
      · exact beq_iff_eq.mp e
    refine wpAny_bind ((PySem.W.looks_subIn X e).here ?_)
    simp only [Bool.false_eq_true, if_false]
    refine wpAny_bind (wpAny_mono one' (fun r s' z => ?_) fun _ _ e => e)
    obtain ⟨v, rfl, hq⟩ := z
    exact wpAny_pure hq
  · refine wpAny_bind (wpAny_pure ?_)
    simp only [Bool.false_eq_true, if_false]
    refine wpAny_bind (wpAny_mono one' (fun r s' z => ?_) fun _ _ e => e)
    obtain ⟨v, rfl, hq⟩ := z
    exact wpAny_pure hq
end
section
variable {X : Cx} {c : Ct} {k : Nat} {f : Addr} {fd : FuncData} {ps : List Str} {φ : Fn} {cn : Str} {a b : Expr} {pos : Pos} {fa fb : M D}
/-- a def called within a built-in -/
theorem run_fn1 {CX : CXT} {sp : Sp} {dvs : List V} {ds : List Value} {E : XK} {pins : List (Addr × Obj)} {σ : L2.St} {H : Hp} {s : Shared} {Q : VK} {us : List Value} {vs : List V} (F : FnOk X.prog X.w X.K X.mg X.base CX k f fd ps sp) (hr : Room (k + 1) X.A) (hb : Binds X.K fd ps ds) (hd : Vals dvs ds) (hx : Passes CX X E)
    (I : Inv X pins σ H s) (r : Vals vs us) (h : sp (vs ++ dvs) H Q E) : wpAny (model X.prog X.w) X.A.in1 (call (.ref f) us) (EP X pins σ Q) X.xe s := by
  have r2 : Vals (vs ++ dvs) (us ++ ds) := r.append hd
  have hl : (us ++ ds).length = ps.length := by rw [← r2.length]; exact F.len _ _ _ _ h
  have e0 : Env0 X.prog X.w X.K X.mg X.base X.A.in1 X.stack s H := by
    have e := I.env0
    exact ⟨e.frames, e.mod, e.bs, e.bsz, e.funs, e.frf, e.hok, e.bare⟩
  refine wpAny_call (codeAny_mono (F.run X.A.in1 X.stack s H ⟨us, []⟩ (us ++ ds) (vs ++ dvs) Q E hr.in1 e0 (hb s us I.kIn hl) r2 h) fun r s' hq => ?_)
  cases r with
  | error e => exact hx pins σ H s e s' I hq
  | ok fl =>
    cases fl with
    | ret u => exact I.after hq
    | next => exact False.elim hq
    | brk => exact False.elim hq
    | cont => exact False.elim hq
theorem rt_type {pins : List (Addr × Obj)} {σ : L2.St} {H : Hp} {s : Shared} {y : V} {u : Value} (cf : ClsF X.K cn) (I : Inv X pins σ H s) (ry : RelV y u) (h : RtOk X.K H cn y) : ∃ tb, PySem.W.Looks (model X.prog X.w) s.heap (typeOf u) tb ∧ PySem.W.notFirst X.K (He.ga X.K cn) tb = true := by
  rcases h with ⟨b, dy, gs, rfl, hb'⟩ | ⟨S, d, ho, hs, w⟩
  · cases ry
    obtain ⟨mB, J', _⟩ := ins_get I.hok hb'
    obtain ⟨od', J', _⟩ := J'.look
    exact ⟨_, J'.type, by simp [PySem.W.notFirst]⟩
  · refine ⟨_, looks_ty (type_of I ry w hs ho), ?_⟩
    unfold PySem.W.notFirst
    rw [cf.sb _ (kind_in d ho)]
    simp
theorem op_eqX (cf : ClsF X.K cn) (F : FnOk X.prog X.w X.K X.mg X.base CX0 k f fd ps (spF X.K φ)) (hm : Meth X.K (He.ga X.K cn) "__eq__" f) (room : Room k X.A) (hb : Binds X.K fd ps []) : OpR X (compareOp .Eq) (rCmpO cn X.K φ false) := by
  intro pins s σ H x y v u Q I rx ry h
  obtain ⟨a, dx, fs, rfl, ha, hy, hsp⟩ := h
  cases rx
  obtain ⟨mA, J, _⟩ := ins_get I.hok ha
  obtain ⟨od, J, _⟩ := J.look
  obtain ⟨m, hF⟩ := I.fr
  obtain ⟨tb, hl, hn⟩ := rt_type cf I ry hy
  refine PySem.W.cmp_K (op := .Eq) (tb := tb) room.units0 hF I.ok.mod.kin J hl hn hm.at_ hm.fn (wpAny_mono (run_fn (vs := [.ref a, y]) F room hb .nil pass0 I (.cons rfl (.cons ry .nil)) hsp) (fun r s' q => ?_) fun _ _ z => z)
  obtain ⟨z, H', I', rz, b, ez, q⟩ := q
  subst ez
  cases rz
  exact ⟨.bl b, H', I', rfl, by simpa using q⟩
theorem op_neX (cf : ClsF X.K cn) (F : FnOk X.prog X.w X.K X.mg X.base CX0 k f fd ps (spF X.K φ)) (hm : Meth X.K (He.ga X.K cn) "__eq__" f) (room : Room (k + 1) X.A) (hb : Binds X.K fd ps []) : OpR X (compareOp .NotEq) (rCmpO cn X.K φ true) := by
  intro pins s σ H x y v u Q I rx ry h
  obtain ⟨a, dx, fs, rfl, ha, hy, hsp⟩ := h
  cases rx
  obtain ⟨mA, J, _⟩ := ins_get I.hok ha
  obtain ⟨od, J, _⟩ := J.look
  obtain ⟨tb, hl, hn⟩ := rt_type cf I ry hy
  refine ne_own (A := X.A) (by have := room.un; omega) I.kIn J hl hn cf.hm cf.ne hm.at_ hm.fn (wpAny_mono (run_fn1 (vs := [.ref a, y]) F room hb .nil pass0 I (.cons rfl (.cons ry .nil)) hsp) (fun r s' q => ?_) fun _ _ z => z)
  obtain ⟨z, H', I', rz, b, ez, q⟩ := q
  subst ez
  cases rz
  exact ⟨b, rfl, .bl (!b), H', I', rfl, by simpa using q⟩
/-- one of two values is an instance on the left: its own ==; else data -/
noncomputable def mCmpX (cn : Str) (φ : Fn) (n : Bool) (fa fb : M D) : M D := fun e => match fa e with
  | some (da, e1) => (match fb e1 with
    | some (db, e2) => (match da with
      | .obj c fs => if c = cn ∧ rOk cn db = true then (match φ [.sh (.obj c fs), .sh db] with
        | some (.bl b, _) => some (.bl (n != b), e2)
        | _ => none) else none
      | da => (match (bif n then gNe da db else gEq da db) with
        | some z => some (z, e2)
        | none => none))
    | none => none)
  | none => none
theorem t_cmpX {n : Bool} {r : R2} (hr : Op2 X.K r (fun x y => bif n then gNe x y else gEq x y)) (σ : L2.St) (H : Hp) (Q : VK) (h : tM X.K c (mCmpX cn φ n fa fb) σ H Q) : tOp (fun x y H Q => rCmpO cn X.K φ n x y H Q ∨ r x y H Q) (tM X.K c fa) (tM X.K c fb) σ H Q := by
  obtain ⟨S, env, d, env', E, e1, kk⟩ := h
  unfold mCmpX at e1
  split at e1
  · rename_i da ea qa
    split at e1
    · rename_i db eb qb
      split at e1
      · rename_i c1 fs
        split at e1
        · rename_i hc
          obtain ⟨rfl, hro⟩ := hc
          split at e1
          · rename_i bb e3 q2
            cases e1
            refine ⟨S, env, _, ea, E, qa, fun S1 H1 v1 E1 s1 r1 => ⟨S1, ea, db, _, E1, qb, fun S2 H2 v2 E2 s2 r2 => .inl ?_⟩⟩
            have r1' := r1.mono s2
            cases r1 with
            | obj h1 rf =>
              refine ⟨_, _, _, rfl, E2.sub _ _ (s2 _ _ h1), ?_, ?_⟩
              · cases ho : isObjD db with
                | false => exact .inr ⟨S2, db, ho, E2.sub, .inl r2⟩
                | true =>
                  cases r2 <;> first | (cases ho; done) | (cases hro; done) | skip
                  rename_i h2 rf2
                  have : _ = _ := of_decide_eq_true hro
                  subst this
                  exact .inl ⟨_, _, _, rfl, E2.sub _ _ h2⟩
              · refine ⟨_, S2, _, _, _, ER.args E2.sub (.cons r1' (.cons r2 .nil)), q2, fun S3 H3 v E3 s3 r3 => ?_⟩
                cases r3
                exact ⟨_, rfl, kk S3 H3 _ (E2.grow E3.s0 E3.sub E3.dom (fun b o z => E3.kep b o z fun _ z => nomatch z) E3.frs) ((s1.trans s2).trans s3) (.bl _)⟩
          · cases e1
        · cases e1
      · split at e1
        · rename_i z qz
          cases e1
          refine ⟨S, env, _, ea, E, qa, fun S1 H1 v1 E1 s1 r1 => ⟨S1, ea, db, _, E1, qb, fun S2 H2 v2 E2 s2 r2 => .inr ?_⟩⟩
          exact hr S2 H2 _ db _ v1 v2 Q qz (.inl (r1.mono s2)) (.inl r2) E2.sub (fun v r => kk S2 H2 v E2 (s1.trans s2) r) fun p o hp r => kk _ _ _ (E2.laid o hp) ((s1.trans s2).trans (same_upd (E2.sub.free hp))) r
        · cases e1
    · cases e1
  · cases e1
theorem f_eqX {j : Nat} (cf : ClsF X.K cn) (F : FnOk X.prog X.w X.K X.mg X.base CX0 k f fd ps (spF X.K φ)) (hm : Meth X.K (He.ga X.K cn) "__eq__" f) (room : Room (k + 1) X.A) (hb : Binds X.K fd ps []) (ha : FE X c a fa) (hbb : FE X c b fb) (hbi : behindInMarks .Eq b = false := by rfl) :
    FE X c (.Compare a [.Eq] [b] pos) (mCmpX cn φ false fa fb) := (pe_cmpR (op2_or (op_eqX cf F hm (room.mono (by omega)) hb) (op2_or op_eq (op_eqD room.units))) ha hbb hbi).weak (t_cmpX o2_eq)
theorem f_neX {j : Nat} (cf : ClsF X.K cn) (F : FnOk X.prog X.w X.K X.mg X.base CX0 k f fd ps (spF X.K φ)) (hm : Meth X.K (He.ga X.K cn) "__eq__" f) (room : Room (k + 1) X.A) (hb : Binds X.K fd ps []) (ha : FE X c a fa) (hbb : FE X c b fb) (hbi : behindInMarks .NotEq b = false := by rfl) :
    FE X c (.Compare a [.NotEq] [b] pos) (mCmpX cn φ true fa fb) := (pe_cmpR (op2_or (op_neX cf F hm room hb) (op2_or op_ne (op_neD room.units))) ha hbb hbi).weak (t_cmpX o2_ne)
end
end FL

set_option Elab.async false
set_option linter.all false
set_option maxRecDepth 100000
set_option maxHeartbeats 2000000
namespace FL
open PySem PySem.Spec PyProof.Rows L2
/-! ## len(o), bool(o), o as a test, by own __len__, __bool__ -/
/-- φ of the instance, its answer kept by g -/
def mOwn1 (cn : Str) (φ : Fn) (g : D → Option D) (fa : M D) : M D := fun e => match fa e with
  | some (.obj c fs, e1) => if c = cn then (match φ [.sh (.obj c fs)] with
    | some (r, _) => (match g r with
      | some z => some (z, e1)
      | none => none)
    | none => none) else none
  | _ => none
def gLenB : D → Option D
  | .int n => if 0 ≤ n ∧ n < 1000000000 then some (.int n) else none
  | _ => none
def gBlB : D → Option D
  | .bl b => some (.bl b)
  | _ => none
def rOwn1 (cn : Str) (K : PySem.W.Frag) (φ : Fn) (g : D → Option D) (x : V) (H : Hp) (Q : VK) : Prop := ∃ a dx fs, x = .ref a ∧ H a = some (.ins (He.ga K cn) dx fs) ∧ spF K φ [x] H (fun v H' => (∃ S d z, RelD K S d v ∧ g d = some z) ∧ Q v H') E0
theorem new_bool_obj {prog : Program} {w : World} (a : Addr) : MeetsIn prog w (Builtin.«bool.__new__» ⟨[.type "bool", .ref a], []⟩)
    (fun A R s => wpAny (model prog w) A.in1 (truthy (.ref a)) (fun b s1 => R (.ok (.ret (.bool b))) s1) (fun e s1 => R (.error e) s1) s) := fun A R s h => by
  unfold Builtin.«bool.__new__»
  have f1 := PySem.F.conv_sub_bool
  refine wpAny_bind (m := isType _) (wpAny_of_eq (a := true) (by first | rfl | kernel_rfl) ?_)
  try dsimp only
  rw [if_neg (by decide)]
  refine wpAny_bind (m := isSubtype _ _) (wpAny_of_eq (a := true) f1 ?_)
  try dsimp only
  rw [if_neg (by decide)]
  refine wpAny_bind (wpAny_of_eq (a := [Value.ref a]) (by first | rfl | kernel_rfl) ?_)
  try dsimp only
  exact wpAny_bind (wpAny_mono h (fun b s1 q => wpAny_pure q) fun _ _ z => z)
section
variable {X : Cx} {c : Ct} {k : Nat} {f : Addr} {fd : FuncData} {ps : List Str} {φ : Fn} {cn : Str} {e : Expr} {p pos : Pos} {fa : M D}
theorem t_own1 {g : D → Option D} (hg : ∀ d z, g d = some z → z = d) (σ : L2.St) (H : Hp) (Q : VK) (h : tM X.K c (mOwn1 cn φ g fa) σ H Q) : tCB (fun vs H Q => ∃ x, vs = [x] ∧ rOwn1 cn X.K φ g x H Q) (tCons (tM X.K c fa) tNil) σ H Q := by
  obtain ⟨S, env, d, env', E, e1, kk⟩ := h
  unfold mOwn1 at e1
  split at e1
  · rename_i c1 fs ea qa
    split at e1
    · rename_i hc
      subst hc
      split at e1
      · rename_i r e3 q2
        split at e1
        · rename_i z qz
          cases e1
          refine ⟨S, env, _, _, E, qa, fun S1 H1 v1 E1 s1 r1 => ⟨v1, rfl, ?_⟩⟩
          have r1' := r1
          cases r1 with
          | obj h1 rf =>
            refine ⟨_, _, _, rfl, E1.sub _ _ h1, ?_⟩
            refine ⟨_, S1, _, _, _, ER.args E1.sub (.cons r1' .nil), q2, fun S3 H3 v E3 s3 r3 => ⟨⟨S3, r, _, r3, qz⟩, ?_⟩⟩
            have hz := hg _ _ qz
            subst hz
            exact kk S3 H3 _ (E1.grow E3.s0 E3.sub E3.dom (fun b o z => E3.kep b o z fun _ z => nomatch z) E3.frs) (s1.trans s3) r3
        · cases e1
      · cases e1
    · cases e1
  · cases e1
theorem lenB_eq (d z : D) (h : gLenB d = some z) : z = d := by
  unfold gLenB at h
  split at h
  · split at h
    · cases h; rfl
    · cases h
  · cases h
theorem blB_eq (d z : D) (h : gBlB d = some z) : z = d := by
  unfold gBlB at h
  split at h
  · cases h; rfl
  · cases h
theorem cr_lenO (F : FnOk X.prog X.w X.K X.mg X.base CX0 k f fd ps (spF X.K φ)) (hm : Meth X.K (He.ga X.K cn) "__len__" f) (room : Room (k + 1) X.A) (hb : Binds X.K fd ps []) : CallR X (.builtin "len") (fun vs H Q => ∃ x, vs = [x] ∧ rOwn1 cn X.K φ gLenB x H Q) := by
  intro pins s σ H xs us Q I r h
  obtain ⟨x, rfl, a, dx, fs, rfl, ha, hsp⟩ := h
  obtain rfl := Vals.ref1 r
  obtain ⟨mA, J, _⟩ := ins_get I.hok ha
  obtain ⟨od, J, _⟩ := J.look
  obtain ⟨m, hF⟩ := I.fr
  refine PySem.W.len_K hF I.ok.mod.kin J hm.at_ hm.fn (wpAny_mono (run_fn1 (vs := [.ref a]) F room hb .nil pass0 I (.cons rfl .nil) hsp) (fun r s' q => ?_) fun _ _ z => z)
  obtain ⟨z, H', I', rz, ⟨S, d, z2, rd, hg⟩, q⟩ := q
  unfold gLenB at hg
  split at hg
  · split at hg
    · rename_i n hn
      cases rd
      obtain ⟨t, rfl⟩ := (show ∃ t, r = Value.int n t from rz)
      exact ⟨⟨hn.1, Int.lt_trans hn.2 (by decide)⟩, .int n, H', I'.tok _, ⟨_, rfl⟩, q⟩
    · cases hg
  · cases hg
theorem f_lenO (F : FnOk X.prog X.w X.K X.mg X.base CX0 k f fd ps (spF X.K φ)) (hm : Meth X.K (He.ga X.K cn) "__len__" f) (room : Room (k + 1) X.A) (hb : Binds X.K fd ps []) (ha : FE X c e fa) (hg : Gl X "len") (hn : X.mg "len" = none)
    (he : starEach [e] X.env = (false, eval e X.env) :: starEach [] X.env := by rfl) (hpl : (backTo pos (starEach ([] : List Expr) X.env)).any (·.1) = false := by rfl) : FE X c (.Call (.Name "len" p) [e] [] pos) (mOwn1 cn φ gLenB fa) :=
  (pe_callB (cr_lenO F hm room hb) hg hn (by decide +kernel) (pa_cons ha pa_nil he) (by decide) (by decide) he hpl).weak (t_own1 lenB_eq)
theorem truthy_own {A : Around} {E : Value → Shared → Prop} {pins : List (Addr × Obj)} {σ : L2.St} {H : Hp} {s : Shared} {a : Addr} {Q : VK} {R : Bool → Shared → Prop} (I : Inv X pins σ H s) (hm : Meth X.K (He.ga X.K cn) "__bool__" f)
    {dx : Addr} {fs : List (Str × V)} (ha : H a = some (.ins (He.ga X.K cn) dx fs))
    (run : wpAny (model X.prog X.w) A (call (.ref f) [.ref a]) (EP X pins σ fun v H' => (∃ S d z, RelD X.K S d v ∧ gBlB d = some z) ∧ Q v H') E s) (hR : ∀ (b : Bool) (s' : Shared) (H' : Hp), Inv X pins σ H' s' → Q (.bl b) H' → R b s') :
    wpAny (model X.prog X.w) A (truthy (.ref a)) R E s := by
  obtain ⟨mA, J, _⟩ := ins_get I.hok ha
  obtain ⟨od, J, _⟩ := J.look
  obtain ⟨m, hF⟩ := I.fr
  refine PySem.W.truthy_K hF I.ok.mod.kin J hm.at_ hm.fn (wpAny_mono run (fun r s' q => ?_) fun _ _ z => z)
  obtain ⟨z, H', I', rz, ⟨S, d, z2, rd, hg⟩, q⟩ := q
  unfold gBlB at hg
  split at hg
  · rename_i b
    cases rd
    cases rz
    exact hR b s' H' I' q
  · cases hg
theorem cr_boolO (F : FnOk X.prog X.w X.K X.mg X.base CX0 k f fd ps (spF X.K φ)) (hm : Meth X.K (He.ga X.K cn) "__bool__" f) (room : Room (k + 2) X.A) (hb : Binds X.K fd ps []) : CallR X (.type "bool") (fun vs H Q => ∃ x, vs = [x] ∧ rOwn1 cn X.K φ gBlB x H Q) := by
  intro pins s σ H xs us Q I r h
  obtain ⟨x, rfl, a, dx, fs, rfl, ha, hsp⟩ := h
  obtain rfl := Vals.ref1 r
  refine callType_newIn PySem.F.called_bool PySem.F.newNe_bool (PySem.F.typeCall_bool_1 _) (PySem.F.newCall_bool_1 _) (fun obj => PySem.F.args_object_init_2 obj _) PySem.F.entry_bool_new (new_bool_obj a) ?_
  have e0 : Env0 X.prog X.w X.K X.mg X.base X.A.in1.in1 X.stack s H := by
    have e := I.env0
    exact ⟨e.frames, e.mod, e.bs, e.bsz, e.funs, e.frf, e.hok, e.bare⟩
  have hl : ([Value.ref a] ++ [] : List Value).length = ps.length := by
    have := F.len _ _ _ _ hsp
    simpa using this
  refine truthy_own (A := X.A.in1.in1) (Q := Q) I hm ha (wpAny_call (codeAny_mono (F.run X.A.in1.in1 X.stack s H ⟨[.ref a], []⟩ ([Value.ref a] ++ []) [.ref a] _ E0 (Room.in1 (Room.in1 (k := k + 1) room)) e0 (hb s [.ref a] I.kIn hl) (.cons rfl .nil) hsp) fun r s' hq => ?_)) fun b s' H' I' q => ?_
  · cases r with
    | error e => exact pass0 pins σ H s e s' I hq
    | ok fl =>
      cases fl with
      | ret u => exact I.after hq
      | next => exact False.elim hq
      | brk => exact False.elim hq
      | cont => exact False.elim hq
  · show _ ∧ _
    exact ⟨rfl, .bl b, H', I', rfl, q⟩
theorem f_boolO (F : FnOk X.prog X.w X.K X.mg X.base CX0 k f fd ps (spF X.K φ)) (hm : Meth X.K (He.ga X.K cn) "__bool__" f) (room : Room (k + 2) X.A) (hb : Binds X.K fd ps []) (ha : FE X c e fa) (hg : Gl X "bool") (hn : X.mg "bool" = none)
    (he : starEach [e] X.env = (false, eval e X.env) :: starEach [] X.env := by rfl) (hpl : (backTo pos (starEach ([] : List Expr) X.env)).any (·.1) = false := by rfl) : FE X c (.Call (.Name "bool" p) [e] [] pos) (mOwn1 cn φ gBlB fa) :=
  (pe_callTy (cr_boolO F hm room hb) hg hn (by decide +kernel) (pa_cons ha pa_nil he) (by decide) (by decide) he hpl).weak (t_own1 blB_eq)
/-- an instance as a test -/
def mTruO (cn : Str) (φ : Fn) (fa : M D) : M Bool := fun e => match fa e with
  | some (.obj c fs, e1) => if c = cn then (match φ [.sh (.obj c fs)] with
    | some (.bl b, _) => some (b, e1)
    | _ => none) else none
  | _ => none
theorem ft_truO (F : FnOk X.prog X.w X.K X.mg X.base CX0 k f fd ps (spF X.K φ)) (hm : Meth X.K (He.ga X.K cn) "__bool__" f) (room : Room k X.A) (hb : Binds X.K fd ps []) (ha : FE X c e fa)
    (he : ∀ whole, isTrue e X.env whole = (do let v ← whole; standAt e.pos; holding [v] (truthy v)) := by intro _; rfl) : FT X c e (mTruO cn φ fa) := by
  refine ⟨fun pins s σ H Q I h => ?_⟩
  obtain ⟨S, env, d, env', E, e1, kk⟩ := h
  unfold mTruO at e1
  split at e1
  · rename_i c1 fs ea qa
    split at e1
    · rename_i hc
      subst hc
      split at e1
      · rename_i b e3 q2
        cases e1
        refine isTrue_plain (thn (ha.run pins s σ H (fun v H1 => ∃ S1, Er X.K c S1 H1 σ env' ∧ Same S S1 ∧ RelD X.K S1 (.obj c1 fs) v) I ⟨S, env, _, _, E, qa, fun S1 H1 v E1 s1 r1 => ⟨S1, E1, s1, r1⟩⟩) fun v s1 ⟨x, H1, I1, rx, S1, E1, s1', r1⟩ => ?_) (he _)
        have r1' := r1
        obtain ⟨aa, dxx, vss, rfl, h1⟩ : ∃ aa dxx vss, x = V.ref aa ∧ S1 aa = some (.ins (He.ga X.K c1) dxx vss) := by
          cases r1 with
          | obj h rf => exact ⟨_, _, _, rfl, h⟩
        · cases rx
          have hsp : spF X.K φ [V.ref aa] H1 (fun v H' => (∃ S d z, RelD X.K S d v ∧ gBlB d = some z) ∧ (v = .bl d ∧ Q d H')) E0 := by
            refine ⟨_, S1, _, _, _, ER.args E1.sub (.cons r1' .nil), q2, fun S3 H3 v E3 s3 r3 => ⟨⟨S3, .bl d, _, r3, rfl⟩, ?_⟩⟩
            cases r3
            exact ⟨rfl, kk S3 H3 (E1.grow E3.s0 E3.sub E3.dom (fun b o z => E3.kep b o z fun _ z => nomatch z) E3.frs) (s1'.trans s3)⟩
          refine truthy_own (Q := fun v H' => v = .bl d ∧ Q d H') I1 hm (E1.sub _ _ h1) (run_fn (vs := [.ref aa]) F room hb .nil pass0 I1 (.cons rfl .nil) hsp) fun b' s' H' I' q => ?_
          obtain ⟨qe, q⟩ := q
          cases qe
          exact ⟨H', I', q⟩
      · cases e1
    · cases e1
  · cases e1
end
end FL

set_option Elab.async false
set_option linter.all false
set_option maxRecDepth 100000
set_option maxHeartbeats 2000000
namespace FL
open PySem PySem.Spec PyProof.Rows L2
/-! ## texts -/
theorem rel_str {K : PySem.W.Frag} {S : Hp} {i : Str} {x : V} (h : RelD K S (.str i) x) : x = .str i := by cases h; rfl
noncomputable def gFmt : D → Option D
  | .int i => bif intOk i then some (.str (toString i)) else none
  | .str y => if y.length ≤ sizeLine then some (.str y) else none
  | _ => none
/-- the parts of an f-string, one behind the other -/
def mJs : List (M D) → Str → M D
  | [], acc => fun e => some (.str acc, e)
  | f :: fs, acc => fun e => match f e with
    | some (.str y, e1) => if (acc ++ y).length ≤ sizeLine then mJs fs (acc ++ y) e1 else none
    | _ => none
/-- a method of texts with one argument, without -/
def OpS1 (K : PySem.W.Frag) (r : V → List V → Hp → VK → Prop) (g : D → D → Option D) : Prop := ∀ (S H : Hp) (d e z : D) (x y : V) (Q : VK), g d e = some z → RelD K S d x → RelD K S e y → Same S H →
  (∀ v, RelD K S z v → Q v H) → (∀ p o, H p = none → RelD K (upd S p o) z (.ref p) → Q (.ref p) (upd H p o)) → r x [y] H Q
def OpS0 (K : PySem.W.Frag) (r : V → List V → Hp → VK → Prop) (g : D → Option D) : Prop := ∀ (S H : Hp) (d z : D) (x : V) (Q : VK), g d = some z → RelD K S d x → Same S H →
  (∀ v, RelD K S z v → Q v H) → (∀ p o, H p = none → RelD K (upd S p o) z (.ref p) → Q (.ref p) (upd H p o)) → r x [] H Q
section
variable {X : Cx} {c : Ct} {e o : Expr} {pos apos : Pos} {f fo fe : M D} {fs : List (M D)}
theorem f_fmt (he : FE X c e f) : FE X c (.FormattedValue e (-1) none pos) (m1 gFmt f) := (pe_fmt he).weak fun σ H Q ⟨S, env, d, env', E, e1, k⟩ => by
  unfold m1 at e1
  split at e1
  · cases e1
  · rename_i da ea qa
    split at e1
    · cases e1
    · rename_i z qz
      cases e1
      refine ⟨S, env, da, _, E, qa, fun S1 H1 v1 E1 s1 r1 => ?_⟩
      unfold gFmt at qz
      split at qz
      · rename_i i
        obtain ⟨h, rfl⟩ := bif_some qz
        cases r1
        exact .inr ⟨i, rfl, chk_of h, k S1 H1 _ E1 s1 (.str _)⟩
      · rename_i y
        split at qz
        · rename_i h
          cases qz
          cases r1
          exact .inl ⟨y, rfl, h, k S1 H1 _ E1 s1 (.str _)⟩
        · cases qz
      · cases qz
inductive FJ (X : Cx) (c : Ct) : List Expr → List (M D) → Prop where
  | nil : FJ X c [] []
  | cons {e : Expr} {f : M D} {es : List Expr} {fs : List (M D)} (h : FE X c e f) (r : FJ X c es fs) : FJ X c (e :: es) (f :: fs)
theorem FJ.pj {es : List Expr} {fs : List (M D)} (h : FJ X c es fs) : PJ X es (fs.map (tM X.K c)) := by
  induction h with
  | nil => exact .nil
  | cons h r ih => exact .cons h ih
theorem t_js {Q : VK} : ∀ (fs : List (M D)) (acc : Str) (σ : L2.St) (H : Hp), tM X.K c (mJs fs acc) σ H Q → tJs (fs.map (tM X.K c)) acc σ H fun out H1 => Q (.str out) H1
  | [], acc, σ, H, ⟨S, env, d, env', E, e1, k⟩ => by
    cases e1
    exact k S H _ E (Same.refl _) (.str _)
  | f :: fs, acc, σ, H, ⟨S, env, d, env', E, e1, k⟩ => by
    have e1' : (match f env with
      | some (.str y, e1) => if (acc ++ y).length ≤ sizeLine then mJs fs (acc ++ y) e1 else none
      | _ => none) = some (d, env') := e1
    split at e1'
    · rename_i y ea qa
      split at e1'
      · rename_i hz
        refine ⟨S, env, _, ea, E, qa, fun S1 H1 v1 E1 s1 r1 => ⟨y, rel_str r1, hz, ?_⟩⟩
        exact t_js fs (acc ++ y) σ H1 ⟨S1, ea, d, env', E1, e1', fun S2 H2 v E2 s2 r2 => k S2 H2 v E2 (s1.trans s2) r2⟩
      · cases e1'
    · cases e1'
theorem f_joined {v1 v2 : Expr} {rest : List Expr} (h : FJ X c (v1 :: v2 :: rest) fs) : FE X c (.JoinedStr (v1 :: v2 :: rest) pos) (mJs fs Str.empty) := (pe_joined h.pj).weak fun σ H Q h => t_js fs Str.empty σ H h
theorem f_joined1 {v1 : Expr} (h : FE X c v1 f) : FE X c (.JoinedStr [v1] pos) f := pe_joined1 h
theorem f_s1 {id : String} {name : Str} {r : V → List V → Hp → VK → Prop} {g : D → D → Option D} (slot : Slot "str" name id) (ty : typeOf (.builtin id) = pure (.type "method_descriptor")) (rule : MtR X id r) (hg : OpS1 X.K r g) (hw : ∀ d e z, g d e = some z → ∃ a, d = .str a) (ho : FE X c o fo) (he : FE X c e fe)
    (hs : starEach [e] X.env = [(false, eval e X.env)] := by rfl) (hbase : attributeBase o name X.env (eval o X.env) = eval o X.env := by rfl) (hline : (apos.endLine == pos.line) = true := by rfl) :
    FE X c (.Call (.Attribute o name apos) [e] [] pos) (m2 g fo fe) := (pe_m1 slot ty rule ho he hs hbase hline).weak fun σ H Q ⟨S, env, d, env', E, e1, k⟩ => by
  unfold m2 at e1
  split at e1
  · cases e1
  · rename_i da ea qa
    split at e1
    · cases e1
    · rename_i db eb qb
      split at e1
      · cases e1
      · rename_i z qz
        cases e1
        refine ⟨S, env, da, ea, E, qa, fun S1 H1 v1 E1 s1 r1 => ⟨?_, S1, ea, db, _, E1, qb, fun S2 H2 v2 E2 s2 r2 => ?_⟩⟩
        · obtain ⟨a, rfl⟩ := hw da db _ qz
          exact ⟨a, rel_str r1⟩
        · exact hg S2 H2 da db _ v1 v2 Q qz (r1.mono s2) r2 E2.sub (fun v r => k S2 H2 v E2 (s1.trans s2) r) fun p o hp r => k _ _ _ (E2.laid o hp) ((s1.trans s2).trans (same_upd (E2.sub.free hp))) r
theorem f_s0 {id : String} {name : Str} {r : V → List V → Hp → VK → Prop} {g : D → Option D} (slot : Slot "str" name id) (ty : typeOf (.builtin id) = pure (.type "method_descriptor")) (rule : MtR X id r) (hg : OpS0 X.K r g) (hw : ∀ d z, g d = some z → ∃ a, d = .str a) (ho : FE X c o fo)
    (hbase : attributeBase o name X.env (eval o X.env) = eval o X.env := by rfl) (hline : (apos.endLine == pos.line) = true := by rfl) :
    FE X c (.Call (.Attribute o name apos) [] [] pos) (m1 g fo) := (pe_m0 slot ty rule ho hbase hline).weak fun σ H Q ⟨S, env, d, env', E, e1, k⟩ => by
  unfold m1 at e1
  split at e1
  · cases e1
  · rename_i da ea qa
    split at e1
    · cases e1
    · rename_i z qz
      cases e1
      refine ⟨S, env, da, _, E, qa, fun S1 H1 v1 E1 s1 r1 => ⟨?_, ?_⟩⟩
      · obtain ⟨a, rfl⟩ := hw da _ qz
        exact ⟨a, rel_str r1⟩
      · exact hg S1 H1 da _ v1 Q qz r1 E1.sub (fun v r => k S1 H1 v E1 s1 r) fun p o hp r => k _ _ _ (E1.laid o hp) (s1.trans (same_upd (E1.sub.free hp))) r
end
/-! the methods -/
def strsD : List D → Option (List Str)
  | [] => some []
  | .str x :: ds => (match strsD ds with
    | some xs => some (x :: xs)
    | none => none)
  | _ => none
theorem strs_rel {K : PySem.W.Frag} {S : Hp} : ∀ {ds : List D} {vs : List V} {xs : List Str}, RelDs K S ds vs → strsD ds = some xs → vs = xs.map V.str
  | [], _, _, .nil, e => by cases e; rfl
  | .str x :: ds, _, xs, .cons h r, e => by
    have e' : (match strsD ds with
      | some xs => some (x :: xs)
      | none => none) = some xs := e
    split at e'
    · rename_i ys q
      cases e'
      rw [strs_rel r q, rel_str h]; rfl
    · cases e'
theorem rel_strs {K : PySem.W.Frag} {S : Hp} : ∀ (xs : List Str), RelDs K S (xs.map D.str) (xs.map V.str)
  | [] => .nil
  | x :: xs => .cons (.str x) (rel_strs xs)
def joinFit (a : Str) (ys : List Str) : Bool := decide ((ys.map (·.length)).sum + ys.length * a.length ≤ 16777216)
def gJoin : D → D → Option D
  | .str a, .lst ds => (match strsD ds with
    | some ys => bif joinFit a ys then some (.str (Txt.join a ys)) else none
    | none => none)
  | _, _ => none
def gSplit : D → D → Option D
  | .str a, .str b => if (b.length == 0) = false ∧ a.length + 2 ≤ sizeLine then some (.lst ((Txt.split a b).map .str)) else none
  | _, _ => none
def gStarts : D → D → Option D
  | .str a, .str b => some (.bl (Txt.startswith a b))
  | _, _ => none
def gIsdigit : D → Option D
  | .str a => some (.bl (Txt.isdigit a))
  | _ => none
def gIsascii : D → Option D
  | .str a => some (.bl (Txt.isascii a))
  | _ => none
section
variable {X : Cx} {c : Ct} {e o : Expr} {pos apos : Pos} {f fo fe : M D}
theorem f_join (ho : FE X c o fo) (he : FE X c e fe) (hs : starEach [e] X.env = [(false, eval e X.env)] := by rfl) (hbase : attributeBase o "join" X.env (eval o X.env) = eval o X.env := by rfl) (hline : (apos.endLine == pos.line) = true := by rfl) :
    FE X c (.Call (.Attribute o "join" apos) [e] [] pos) (m2 gJoin fo fe) := f_s1 F.slot_str_join F.type_str_join mt_join (fun S H d e z x y Q q r1 r2 hs kv ka => by
  unfold gJoin at q
  split at q
  · rename_i a ds
    split at q
    · rename_i ys qy
      obtain ⟨hz, rfl⟩ := bif_some q
      cases r1
      cases r2 with
      | lst h rs =>
        rw [strs_rel rs qy] at h
        exact ⟨a, _, ys, rfl, rfl, .inl (.of (hs _ _ h)), of_decide_eq_true hz, kv _ (.str _)⟩
    · cases q
  · cases q) (fun d e z q => by
  unfold gJoin at q
  split at q
  · exact ⟨_, rfl⟩
  · cases q) ho he hs hbase hline
theorem f_split (ho : FE X c o fo) (he : FE X c e fe) (hs : starEach [e] X.env = [(false, eval e X.env)] := by rfl) (hbase : attributeBase o "split" X.env (eval o X.env) = eval o X.env := by rfl) (hline : (apos.endLine == pos.line) = true := by rfl) :
    FE X c (.Call (.Attribute o "split" apos) [e] [] pos) (m2 gSplit fo fe) := f_s1 F.slot_str_split F.type_str_split mt_split (fun S H d e z x y Q q r1 r2 hs kv ka => by
  unfold gSplit at q
  split at q
  · rename_i a b
    split at q
    · rename_i hz
      cases q
      cases r1; cases r2
      exact ⟨a, b, rfl, rfl, hz.1, hz.2, fun p hp => ka p _ hp (.lst upd_same (rel_strs _))⟩
    · cases q
  · cases q) (fun d e z q => by
  unfold gSplit at q
  split at q
  · exact ⟨_, rfl⟩
  · cases q) ho he hs hbase hline
theorem f_starts (ho : FE X c o fo) (he : FE X c e fe) (hs : starEach [e] X.env = [(false, eval e X.env)] := by rfl) (hbase : attributeBase o "startswith" X.env (eval o X.env) = eval o X.env := by rfl) (hline : (apos.endLine == pos.line) = true := by rfl) :
    FE X c (.Call (.Attribute o "startswith" apos) [e] [] pos) (m2 gStarts fo fe) := f_s1 F.slot_str_startswith F.type_str_startswith mt_startswith (fun S H d e z x y Q q r1 r2 hs kv ka => by
  unfold gStarts at q
  split at q
  · rename_i a b
    cases q
    cases r1; cases r2
    exact ⟨a, b, rfl, rfl, kv _ (.bl _)⟩
  · cases q) (fun d e z q => by
  unfold gStarts at q
  split at q
  · exact ⟨_, rfl⟩
  · cases q) ho he hs hbase hline
theorem f_isdigit (ho : FE X c o fo) (hbase : attributeBase o "isdigit" X.env (eval o X.env) = eval o X.env := by rfl) (hline : (apos.endLine == pos.line) = true := by rfl) :
    FE X c (.Call (.Attribute o "isdigit" apos) [] [] pos) (m1 gIsdigit fo) := f_s0 F.slot_str_isdigit F.type_str_isdigit mt_isdigit (fun S H d z x Q q r1 hs kv ka => by
  unfold gIsdigit at q
  split at q
  · cases q; cases r1
    exact ⟨_, rfl, rfl, trivial, kv _ (.bl _)⟩
  · cases q) (fun d z q => by
  unfold gIsdigit at q
  split at q
  · exact ⟨_, rfl⟩
  · cases q) ho hbase hline
theorem f_isascii (ho : FE X c o fo) (hbase : attributeBase o "isascii" X.env (eval o X.env) = eval o X.env := by rfl) (hline : (apos.endLine == pos.line) = true := by rfl) :
    FE X c (.Call (.Attribute o "isascii" apos) [] [] pos) (m1 gIsascii fo) := f_s0 F.slot_str_isascii F.type_str_isascii mt_isascii (fun S H d z x Q q r1 hs kv ka => by
  unfold gIsascii at q
  split at q
  · cases q; cases r1
    exact ⟨_, rfl, rfl, trivial, kv _ (.bl _)⟩
  · cases q) (fun d z q => by
  unfold gIsascii at q
  split at q
  · exact ⟨_, rfl⟩
  · cases q) ho hbase hline
end
/-- int of a text of digits -/
def gIntS : List D → Option D
  | [.str a] => (match PySem.intText? a with
    | some n => if a.length ≤ 640 then some (.int n) else none
    | none => none)
  | _ => none
theorem on_intS {K : PySem.W.Frag} : OpN K (fun xs H Q => ∃ a n, xs = [.str a] ∧ PySem.intText? a = some n ∧ a.length ≤ 640 ∧ Q (.int n) H) gIntS := by
  intro S H ds z xs Q q r hs kv ka
  unfold gIntS at q
  split at q
  · rename_i a
    split at q
    · rename_i n qn
      split at q
      · rename_i hz
        cases q
        cases r with
        | cons r1 r2 =>
          cases r1; cases r2
          exact ⟨a, n, rfl, qn, hz, kv _ (.int _)⟩
      · cases q
    · cases q
  · cases q
theorem f_intS {X : Cx} {c : Ct} {a : Expr} {p pos : Pos} {f : M (List D)} (ha : FA X c [a] f) (hg : Gl X "int") (hm : X.mg "int" = none) (he : starEach [a] X.env = (false, eval a X.env) :: starEach [] X.env := by rfl) (hpl : (backTo pos (starEach ([] : List Expr) X.env)).any (·.1) = false := by rfl) :
    FE X c (.Call (.Name "int" p) [a] [] pos) (mMk gIntS f) := f_bty call_int_str on_intS ha hg hm (by decide +kernel) (by decide) (by decide) he hpl
end FL

set_option Elab.async false
set_option linter.all false
set_option maxRecDepth 100000
set_option maxHeartbeats 2000000
namespace FL
open PySem PySem.Spec PyProof.Rows L2
/-! ## bool(xs), sum(xs), xs.count(True) -/
def gBoolL : List D → Option D
  | [.lst xs] => some (.bl (!xs.isEmpty))
  | _ => none
def intsD : List D → Option (List Int)
  | [] => some []
  | .int i :: ds => (match intsD ds with
    | some ns => some (i :: ns)
    | none => none)
  | _ => none
theorem ints_map : ∀ {ds : List D} {ns : List Int}, intsD ds = some ns → ds = ns.map D.int
  | [], _, e => by cases e; rfl
  | .int i :: ds, ns, e => by
    have e' : (match intsD ds with
      | some ns => some (i :: ns)
      | none => none) = some ns := e
    split at e'
    · rename_i ms q
      cases e'
      rw [ints_map q]; rfl
    · cases e'
theorem ints_of_map : ∀ ns : List Int, intsD (ns.map D.int) = some ns
  | [] => rfl
  | n :: ns => by
    show (match intsD (ns.map D.int) with
      | some ns => some (n :: ns)
      | none => none) = _
    rw [ints_of_map ns]
def gSumI : List D → Option D
  | [.lst ds] => (match intsD ds with
    | some ns => some (.int ns.sum)
    | none => none)
  | _ => none
def gCountT : D → Option D
  | .lst [.bl a, .bl b] => some (.int (a.toNat + b.toNat))
  | _ => none
section
variable {X : Cx} {c : Ct} {a : Expr} {p pos : Pos} {f : M (List D)}
theorem on_boolL {K : PySem.W.Frag} : OpN K (fun xs H Q => ∃ (a : Addr) (zs : List V), xs = [.ref a] ∧ SqL K H a zs ∧ Q (.bl (!zs.isEmpty)) H) gBoolL := by
  intro S H ds z xs Q q r hs kv ka
  unfold gBoolL at q
  split at q
  · cases q
    cases r with
    | cons r1 r2 =>
      cases r2
      cases r1 with
      | lst h rs =>
        refine ⟨_, _, rfl, .of (hs _ _ h), ?_⟩
        have := kv _ (.bl _)
        cases rs <;> exact this
  · cases q
theorem f_boolL (ha : FA X c [a] f) (hg : Gl X "bool") (hm : X.mg "bool" = none) (he : starEach [a] X.env = (false, eval a X.env) :: starEach [] X.env := by rfl) (hpl : (backTo pos (starEach ([] : List Expr) X.env)).any (·.1) = false := by rfl) :
    FE X c (.Call (.Name "bool" p) [a] [] pos) (mMk gBoolL f) := f_bty call_boolL on_boolL ha hg hm (by decide +kernel) (by decide) (by decide) he hpl
theorem on_sumI {K : PySem.W.Frag} : OpN K (rSum K) gSumI := by
  intro S H ds z xs Q q r hs kv ka
  unfold gSumI at q
  split at q
  · rename_i ds'
    split at q
    · rename_i ns qn
      cases q
      cases r with
      | cons r1 r2 =>
        cases r2
        cases r1 with
        | lst h rs =>
          rw [ints_map qn] at rs
          rw [rs.ints] at h
          exact ⟨_, ns, rfl, .of (hs _ _ h), kv _ (.int _)⟩
    · cases q
  · cases q
theorem f_sumI (hc : X.calm = true) (ha : FA X c [a] f) (hg : Gl X "sum") (hm : X.mg "sum" = none) (he : starEach [a] X.env = (false, eval a X.env) :: starEach [] X.env := by rfl) (hpl : (backTo pos (starEach ([] : List Expr) X.env)).any (·.1) = false := by rfl) :
    FE X c (.Call (.Name "sum" p) [a] [] pos) (mMk gSumI f) := f_blt (cr_sum hc) on_sumI ha hg hm (by decide +kernel) (by decide) (by decide) he hpl
end

/-! ## e not in o -/
def mInNO (cn : Str) (φ : Fn) (fa fb : M D) : M D := m1 gNot (mInO cn φ fa fb)
def rInNO (cn : Str) (K : PySem.W.Frag) (φ : Fn) : R2 := fun x y H Q => ∃ a dx fs, y = .ref a ∧ H a = some (.ins (He.ga K cn) dx fs) ∧ spF K φ [y, x] H (fun v H' => ∃ b, v = .bl b ∧ Q (.bl (!b)) H') E0
section
variable {X : Cx} {c : Ct} {k : Nat} {f : Addr} {fd : FuncData} {ps : List Str} {φ : Fn} {cn : Str} {a b : Expr} {pos : Pos} {fa fb : M D}
theorem op_inNO (F : FnOk X.prog X.w X.K X.mg X.base CX0 k f fd ps (spF X.K φ)) (hm : Meth X.K (He.ga X.K cn) "__contains__" f) (room : Room k X.A) (hb : Binds X.K fd ps []) : OpR X (compareOp .NotIn) (rInNO cn X.K φ) := by
  intro pins s σ H x y v u Q I rx ry h
  obtain ⟨a, dx, fs, rfl, ha, hsp⟩ := h
  cases ry
  obtain ⟨mA, J, _⟩ := ins_get I.hok ha
  obtain ⟨od, J, _⟩ := J.look
  obtain ⟨m, hF⟩ := I.fr
  refine PySem.W.notIn_K hF I.ok.mod.kin J hm.at_ hm.fn (wpAny_mono (run_fn (vs := [.ref a, x]) F room hb .nil pass0 I (.cons rfl (.cons rx .nil)) hsp) (fun r s' q => ?_) fun _ _ z => z)
  obtain ⟨z, H', I', rz, b, ez, q⟩ := q
  subst ez
  cases rz
  exact wpAny_pure ⟨.bl (!b), H', I', rfl, q⟩
theorem f_inNO (F : FnOk X.prog X.w X.K X.mg X.base CX0 k f fd ps (spF X.K φ)) (hm : Meth X.K (He.ga X.K cn) "__contains__" f) (room : Room k X.A) (hb : Binds X.K fd ps []) (ha : FE X c a fa) (hbb : FE X c b fb) (hbi : behindInMarks .NotIn b = false := by rfl) :
    FE X c (.Compare a [.NotIn] [b] pos) (mInNO cn φ fa fb) := (pe_cmpR (op_inNO F hm room hb) ha hbb hbi).weak fun σ H Q ⟨S, env, d, env', E, e1, kk⟩ => by
  unfold mInNO m1 at e1
  split at e1
  · cases e1
  · rename_i d0 e0 q0
    split at e1
    · cases e1
    · rename_i z qz
      cases e1
      unfold mInO at q0
      split at q0
      · rename_i da ea qa
        split at q0
        · rename_i c' fs eb qb
          split at q0
          · rename_i hc
            subst hc
            split at q0
            · rename_i r e3 q2
              cases q0
              cases qz
              refine ⟨S, env, da, ea, E, qa, fun S1 H1 v1 E1 s1 r1 => ⟨S1, ea, _, _, E1, qb, fun S2 H2 v2 E2 s2 r2 => ?_⟩⟩
              have r2' := r2
              cases r2 with
              | obj h r =>
                refine ⟨_, _, _, rfl, E2.sub _ _ h, ?_⟩
                refine ⟨_, S2, _, _, _, ER.args E2.sub (.cons r2' (.cons (r1.mono s2) .nil)), q2, fun S3 H3 v E3 s3 r3 => ?_⟩
                cases r3
                exact ⟨_, rfl, kk S3 H3 _ (E2.grow E3.s0 E3.sub E3.dom (fun b o z => E3.kep b o z fun _ z => nomatch z) E3.frs) ((s1.trans s2).trans s3) (.bl _)⟩
            · cases q0
          · cases q0
        · cases q0
      · cases q0
end

/-! ## a, b, .. = a list -/
def gUnL (gs : List FG) : FG := fun d e => match d with
  | .lst ds => gSets gs ds e
  | _ => none
section
variable {X : Cx} {c : Ct} {e a : Expr} {es : List Expr} {pos pos' : Pos}
theorem fg_tupL {gs : List FG} {k n : Nat} (hc : X.calm = true) (h : PGs X es (tGs X.K c gs)) (hl : gs.length = n) (hn : (assignEach es X.env).length = n := by rfl) (hst : (assignEach es X.env).findIdx? (·.1) = none := by rfl) : FGt X c (.Tuple es k pos) (gUnL gs) :=
  (pg_unl hc h hn hst).weak fun v σ H Q ⟨S, env, d, e', E, r, h1, kk⟩ => by
    unfold gUnL at h1
    split at h1
    · rename_i ds
      cases r with
      | lst ht rs =>
        refine ⟨_, _, rfl, .of (E.sub _ _ ht), ?_, S, env, ds, e', E, rs, h1, kk⟩
        rw [← rs.length, ← hl]
        exact gSets_len h1
    · cases h1
/-! ## x += e of ints -/
def gAugAdd : Int → Int → Int := fun i j => i + j
def gAugSub : Int → Int → Int := fun i j => i - j
def sAug (i : Nat) (g : Int → Int → Int) (f : M D) : FS := fun e => match e[i]? with
  | some (.sh (.int a)) => (match f e with
    | some (.int b, e1) => (match e1[i]? with
      | some s => if lentS s = true then none else some (.nx (e1.set i (.sh (.int (g a b)))))
      | none => none)
    | _ => none)
  | _ => none
theorem t_aug {i : Nat} {g : Int → Int → Int} {f : M D} (D' : Ends) (σ : L2.St) (H : Hp) (h : tS X.K c (sAug i g f) D' σ H) : tAug i (tM X.K c f) (ipI g) D' σ H := by
  obtain ⟨S, env, o, E, e1, k⟩ := h
  unfold sAug at e1
  split at e1
  · rename_i a qa
    split at e1
    · rename_i b e2 q
      split at e1
      · rename_i s qs
        split at e1
        · cases e1
        · rename_i hl
          cases e1
          obtain ⟨v, hv, rv⟩ := E.sh i _ qa
          cases rv
          refine ⟨_, hv, S, env, _, e2, E, q, fun S1 H1 v E1 s1 r1 => ?_⟩
          cases r1
          exact ⟨a, b, rfl, rfl, k S1 H1 _ (E1.put (fun e z => by rw [qs] at z; exact lentS_no hl (Option.some.inj z)) (.int _)) s1⟩
      · cases e1
    · cases e1
  · cases e1
theorem fs_aug_add {i : Nat} {x : Str} {f : M D} (hN : X.N.Nodup) (hi : X.N[i]? = some x) (hx : Loc X.env.scope x) (he : FE X c e f) (hf : X.fn x = true ∨ X.env.scope.names.lookup x = some .local := by first | exact .inl rfl | exact .inr rfl | assumption) :
    FSt X c (.AugAssign (.Name x pos') .Add e pos) (sAug i gAugAdd f) := (ps_aug hN hi hx he ip_add hf).weak t_aug
theorem fs_aug_sub {i : Nat} {x : Str} {f : M D} (hN : X.N.Nodup) (hi : X.N[i]? = some x) (hx : Loc X.env.scope x) (he : FE X c e f) (hf : X.fn x = true ∨ X.env.scope.names.lookup x = some .local := by first | exact .inl rfl | exact .inr rfl | assumption) :
    FSt X c (.AugAssign (.Name x pos') .Sub e pos) (sAug i gAugSub f) := (ps_aug hN hi hx he ip_sub hf).weak t_aug
end
end FL

set_option Elab.async false
set_option linter.all false
set_option maxRecDepth 100000
set_option maxHeartbeats 2000000
namespace FL
open PySem PySem.Spec PyProof.Rows L2
/-! ## == of data without a bool beside an int -/
mutual
/-- t: ints may stand in it, bools not; else the other way round -/
def okD (t : Bool) : D → Bool
  | .non => true
  | .bl _ => !t
  | .int _ => t
  | .str x => (PyData.str x).canLay0
  | .lst xs => okDs t xs
  | .tup xs => okDs t xs
  | .dic _ => false
  | .obj _ _ => false
  | .scr _ => false
  | .kls _ => false
def okDs (t : Bool) : List D → Bool
  | [] => true
  | x :: xs => okD t x && okDs t xs
end
structure PEq (d : D) (p : PyData) : Prop where
  t : toP d = some p
  l : p.canLay0 = true
  dp : p.depth = dpD d
mutual
theorem peq_of {t : Bool} : ∀ d : D, okD t d = true → ∃ p, toP d = some p ∧ p.canLay0 = true ∧ p.depth = dpD d
  | .non, _ => ⟨.none, rfl, rfl, rfl⟩
  | .bl b, _ => ⟨.bool b, rfl, rfl, rfl⟩
  | .int i, _ => ⟨.int i, rfl, rfl, rfl⟩
  | .str x, h => ⟨.str x, rfl, by simpa only [okD] using h, rfl⟩
  | .lst xs, h => by
    obtain ⟨ps, a, b, e⟩ := peqs_of xs (by simpa only [okD] using h)
    exact ⟨.list ps, by simp only [toP, a], by simpa only [PyData.canLay0] using b, by simp only [PyData.depth, dpD, e]⟩
  | .tup xs, h => by
    obtain ⟨ps, a, b, e⟩ := peqs_of xs (by simpa only [okD] using h)
    exact ⟨.tuple ps, by simp only [toP, a], by simpa only [PyData.canLay0] using b, by simp only [PyData.depth, dpD, e]⟩
  | .dic _, h => by simp [okD] at h
  | .obj _ _, h => by simp [okD] at h
  | .scr _, h => by simp [okD] at h
  | .kls _, h => by simp [okD] at h
theorem peqs_of {t : Bool} : ∀ d : List D, okDs t d = true → ∃ p, toPs d = some p ∧ PyData.canLayAll0 p = true ∧ PyData.depthAll p = dpDs d
  | [], _ => ⟨[], rfl, rfl, rfl⟩
  | x :: xs, h => by
    obtain ⟨h1, h2⟩ := Bool.and_eq_true_iff.mp (show (okD t x && okDs t xs) = true by simpa only [okDs] using h)
    obtain ⟨p, a, b, c⟩ := peq_of x h1
    obtain ⟨ps, a', b', c'⟩ := peqs_of xs h2
    exact ⟨p :: ps, by simp only [toPs, a, a'], by simp only [PyData.canLayAll0, b, b', Bool.and_self], by simp only [PyData.depthAll, dpDs, c, c']⟩
end
mutual
theorem eqv_iff {t : Bool} : ∀ (d e : D) (p q : PyData), okD t d = true → okD t e = true → toP d = some p → toP e = some q → (PyData.eqv p q = true ↔ d = e)
  | .non, e, p, q, h1, h2, a, b => by
    cases a
    cases e <;> simp only [toP, okD, Bool.false_eq_true, reduceCtorEq] at b h2 <;> first | (cases b; done) | (cases b; simp [PyData.eqv]; done) | (split at b <;> cases b; simp [PyData.eqv])
  | .bl x, e, p, q, h1, h2, a, b => by
    cases a
    cases e <;> simp only [toP, okD, Bool.false_eq_true, reduceCtorEq] at b h1 h2 <;> first | (cases b; done) | (cases b; simp [PyData.eqv]; done) | (split at b <;> cases b; simp [PyData.eqv]; done) | (rw [h2] at h1; cases h1)
  | .int x, e, p, q, h1, h2, a, b => by
    cases a
    cases e <;> simp only [toP, okD, Bool.false_eq_true, reduceCtorEq] at b h1 h2 <;> first | (cases b; done) | (rw [h1] at h2; cases h2; done) | (cases b; simp [PyData.eqv]; done) | (split at b <;> cases b; simp [PyData.eqv]; done)
  | .str x, e, p, q, h1, h2, a, b => by
    cases a
    cases e <;> simp only [toP, okD, Bool.false_eq_true, reduceCtorEq] at b h1 h2 <;> first | (cases b; done) | (cases b; simp [PyData.eqv]; done) | (split at b <;> cases b; simp [PyData.eqv]; done)
  | .lst xs, e, p, q, h1, h2, a, b => by
    simp only [toP] at a
    split at a
    · rename_i ps qa
      cases a
      cases e <;> simp only [toP, okD, Bool.false_eq_true, reduceCtorEq] at b h1 h2 <;> first | (cases b; done) | (cases b; simp [PyData.eqv]; done) | skip
      · split at b
        · rename_i qs qb
          cases b
          simp only [PyData.eqv, D.lst.injEq]
          exact eqvs_iff xs _ ps qs h1 h2 qa qb
        · cases b
      · split at b <;> cases b
        simp [PyData.eqv]
    · cases a
  | .tup xs, e, p, q, h1, h2, a, b => by
    simp only [toP] at a
    split at a
    · rename_i ps qa
      cases a
      cases e <;> simp only [toP, okD, Bool.false_eq_true, reduceCtorEq] at b h1 h2 <;> first | (cases b; done) | (cases b; simp [PyData.eqv]; done) | skip
      · split at b <;> cases b
        simp [PyData.eqv]
      · split at b
        · rename_i qs qb
          cases b
          simp only [PyData.eqv, D.tup.injEq]
          exact eqvs_iff xs _ ps qs h1 h2 qa qb
        · cases b
    · cases a
  | .dic _, e, p, q, h1, h2, a, b => by simp [okD] at h1
  | .obj _ _, e, p, q, h1, h2, a, b => by simp [okD] at h1
  | .scr _, e, p, q, h1, h2, a, b => by simp [okD] at h1
  | .kls _, e, p, q, h1, h2, a, b => by simp [okD] at h1
theorem eqvs_iff {t : Bool} : ∀ (d e : List D) (p q : List PyData), okDs t d = true → okDs t e = true → toPs d = some p → toPs e = some q → (PyData.eqvAll p q = true ↔ d = e)
  | [], [], p, q, _, _, a, b => by cases a; cases b; simp [PyData.eqvAll]
  | [], y :: ys, p, q, _, _, a, b => by
    cases a
    simp only [toPs] at b
    split at b
    · split at b <;> cases b
      simp [PyData.eqvAll]
    · cases b
  | x :: xs, [], p, q, _, _, a, b => by
    cases b
    simp only [toPs] at a
    split at a
    · split at a <;> cases a
      simp [PyData.eqvAll]
    · cases a
  | x :: xs, y :: ys, p, q, h1, h2, a, b => by
    obtain ⟨h3, h4⟩ := Bool.and_eq_true_iff.mp (show (okD t x && okDs t xs) = true by simpa only [okDs] using h1)
    obtain ⟨h5, h6⟩ := Bool.and_eq_true_iff.mp (show (okD t y && okDs t ys) = true by simpa only [okDs] using h2)
    simp only [toPs] at a b
    split at a
    · rename_i p1 q1
      split at a
      · rename_i ps q2
        cases a
        split at b
        · rename_i p2 q3
          split at b
          · rename_i qs q4
            cases b
            simp only [PyData.eqvAll, Bool.and_eq_true, List.cons.injEq]
            rw [eqv_iff x y p1 p2 h3 h5 q1 q3, eqvs_iff xs ys ps qs h4 h6 q2 q4]
          · cases b
        · cases b
      · cases a
    · cases a
end
noncomputable def same (d e : D) : Bool := chk (d = e)
theorem same_self (d : D) : same d d = true := chk_yes rfl
theorem same_iff {d e : D} : same d e = true ↔ d = e := ⟨chk_of, fun h => chk_yes h⟩
theorem eqvB {t : Bool} {d e : D} {p q : PyData} (h1 : okD t d = true) (h2 : okD t e = true) (a : toP d = some p) (b : toP e = some q) : PyData.eqv p q = same d e := by
  rw [Bool.eq_iff_iff, eqv_iff d e p q h1 h2 a b, same_iff]
theorem gEqD_ok {t : Bool} {d e : D} (h1 : okD t d = true) (h2 : okD t e = true) (d1 : dpD d ≤ 64) (d2 : dpD e ≤ 64) : gEqD d e = some (.bl (same d e)) := by
  obtain ⟨p, a, b, c⟩ := peq_of d h1
  obtain ⟨q, a', b', c'⟩ := peq_of e h2
  have ok : eqOk p q = true := chk_yes ⟨by unfold SeqAt.shaped; rw [b, c]; simpa using d1, by unfold SeqAt.shaped; rw [b', c']; simpa using d2⟩
  unfold gEqD
  rw [a, a']
  show (bif eqOk p q then some (D.bl (PyData.eqv p q)) else none) = _
  rw [ok, eqvB h1 h2 a a']
  rfl
theorem gNeD_ok {t : Bool} {d e : D} (h1 : okD t d = true) (h2 : okD t e = true) (d1 : dpD d ≤ 64) (d2 : dpD e ≤ 64) : gNeD d e = some (.bl (!same d e)) := by
  obtain ⟨p, a, b, c⟩ := peq_of d h1
  obtain ⟨q, a', b', c'⟩ := peq_of e h2
  have ok : eqOk p q = true := chk_yes ⟨by unfold SeqAt.shaped; rw [b, c]; simpa using d1, by unfold SeqAt.shaped; rw [b', c']; simpa using d2⟩
  unfold gNeD
  rw [a, a']
  show (bif eqOk p q then some (D.bl (!PyData.eqv p q)) else none) = _
  rw [ok, eqvB h1 h2 a a']
  rfl
theorem gEq_ok (t : Bool) {d e : D} (h1 : okD t d = true) (h2 : okD t e = true) (d1 : dpD d ≤ 64) (d2 : dpD e ≤ 64) : gEq d e = some (.bl (same d e)) := by
  unfold gEq
  split
  · rename_i x y
    congr 2
    rw [Bool.eq_iff_iff, same_iff]
    simp
  · exact gEqD_ok h1 h2 d1 d2
theorem gNe_ok (t : Bool) {d e : D} (h1 : okD t d = true) (h2 : okD t e = true) (d1 : dpD d ≤ 64) (d2 : dpD e ≤ 64) : gNe d e = some (.bl (!same d e)) := by
  unfold gNe
  split
  · rename_i x y
    congr 3
    rw [Bool.eq_iff_iff, same_iff]
    simp
  · exact gNeD_ok h1 h2 d1 d2
/-- in, not in -/
theorem any_same {t : Bool} {d : D} {p : PyData} (h1 : okD t d = true) (a : toP d = some p) : ∀ (xs : List D) (ps : List PyData), okDs t xs = true → toPs xs = some ps → (ps.any fun z => PyData.eqv z p) = xs.any fun x => same x d
  | [], ps, _, b => by cases b; rfl
  | x :: xs, ps, h2, b => by
    obtain ⟨h3, h4⟩ := Bool.and_eq_true_iff.mp (show (okD t x && okDs t xs) = true by simpa only [okDs] using h2)
    simp only [toPs] at b
    split at b
    · rename_i p1 q1
      split at b
      · rename_i qs q2
        cases b
        rw [List.any_cons, List.any_cons, eqvB h3 h1 q1 a, any_same h1 a xs qs h4 q2]
      · cases b
    · cases b
theorem gInL_ok (t n : Bool) {d : D} {xs : List D} (h1 : okD t d = true) (h2 : okDs t xs = true) (d1 : dpD d ≤ 64) (d2 : dpDs xs ≤ 63) : gInL n d (.lst xs) = some (.bl (n != xs.any fun x => same x d)) := by
  obtain ⟨p, a, b, c⟩ := peq_of d h1
  obtain ⟨ps, a', b', c'⟩ := peqs_of xs h2
  have ok : eqOk p (.list ps) = true := chk_yes ⟨by unfold SeqAt.shaped; rw [b, c]; simpa using d1, by
    unfold SeqAt.shaped
    simp only [PyData.canLay0, PyData.depth, b', c', Bool.true_and, decide_eq_true_eq]
    omega⟩
  unfold gInL
  rw [a]
  simp only [a', ok, cond_true, any_same h1 a xs ps h2 a']
/-! ## lists of pairs of ints -/
theorem dp_tupP (p : Int × Int) : dpD (tupP p) ≤ 64 := by
  have e : dpD (tupP p) = 1 := rfl
  omega
theorem okD_tupP (p : Int × Int) : okD true (tupP p) = true := rfl
theorem okDs_pairs : ∀ ps : List (Int × Int), okDs true (ps.map tupP) = true
  | [] => rfl
  | p :: ps => by
    show (okD true (tupP p) && okDs true (ps.map tupP)) = true
    rw [okDs_pairs ps]; rfl
theorem dpDs_pairs : ∀ ps : List (Int × Int), dpDs (ps.map tupP) ≤ 1
  | [] => Nat.zero_le _
  | p :: ps => by
    show max (dpD (tupP p)) (dpDs (ps.map tupP)) ≤ 1
    have := dpDs_pairs ps
    have e : dpD (tupP p) = 1 := rfl
    omega
theorem tupP_inj {p q : Int × Int} (h : tupP p = tupP q) : p = q := by
  simp only [tupP, D.tup.injEq, List.cons.injEq, D.int.injEq, and_true] at h
  exact Prod.ext h.1 h.2
theorem same_tupP (p q : Int × Int) : same (tupP p) (tupP q) = decide (p = q) := by
  rw [Bool.eq_iff_iff, same_iff, decide_eq_true_eq]
  exact ⟨tupP_inj, fun h => by rw [h]⟩
theorem map_tupP_inj {ps qs : List (Int × Int)} (h : ps.map tupP = qs.map tupP) : ps = qs := (List.map_inj_right fun _ _ => tupP_inj).mp h
theorem same_pairs (ps qs : List (Int × Int)) : same (.lst (ps.map tupP)) (.lst (qs.map tupP)) = decide (ps = qs) := by
  rw [Bool.eq_iff_iff, same_iff, decide_eq_true_eq]
  exact ⟨fun h => map_tupP_inj (D.lst.inj h), fun h => by rw [h]⟩
theorem eqPairs (ps qs : List (Int × Int)) : gEq (.lst (ps.map tupP)) (.lst (qs.map tupP)) = some (.bl (decide (ps = qs))) := by
  rw [gEq_ok true (by simpa only [okD] using okDs_pairs ps) (by simpa only [okD] using okDs_pairs qs) (by simp only [dpD]; have := dpDs_pairs ps; omega) (by simp only [dpD]; have := dpDs_pairs qs; omega), same_pairs]
theorem nePairs (ps qs : List (Int × Int)) : gNe (.lst (ps.map tupP)) (.lst (qs.map tupP)) = some (.bl (!decide (ps = qs))) := by
  rw [gNe_ok true (by simpa only [okD] using okDs_pairs ps) (by simpa only [okD] using okDs_pairs qs) (by simp only [dpD]; have := dpDs_pairs ps; omega) (by simp only [dpD]; have := dpDs_pairs qs; omega), same_pairs]
theorem neP1 (p q : Int × Int) : gNe (tupP p) (tupP q) = some (.bl (!decide (p = q))) := by
  rw [gNe_ok true rfl rfl (dp_tupP _) (dp_tupP _), same_tupP]
theorem inPairs (n : Bool) (p : Int × Int) (qs : List (Int × Int)) : gInL n (tupP p) (.lst (qs.map tupP)) = some (.bl (n != decide (p ∈ qs))) := by
  rw [gInL_ok true n rfl (okDs_pairs qs) (dp_tupP _) (by have := dpDs_pairs qs; omega)]
  congr 3
  rw [Bool.eq_iff_iff, decide_eq_true_eq, List.any_eq_true]
  constructor
  · rintro ⟨x, hx, h⟩
    obtain ⟨q, hq, rfl⟩ := List.mem_map.mp hx
    rw [same_iff] at h
    exact tupP_inj h ▸ hq
  · intro h
    exact ⟨tupP p, List.mem_map.mpr ⟨p, h, rfl⟩, same_self _⟩
end FL
namespace FL
open PySem PySem.Spec PyProof.Rows L2
/-! ## such comparisons as tests -/
section
variable {X : Cx} {c : Ct} {a b : Expr} {pos pos' : Pos} {op : CmpOp} {r : R2} {ta tb : TE} {f : M D}
theorem ft_ofOp (ho : OpR X (compareOp op) r) (ha : PE X a ta) (hb : PE X b tb) (hm : behindInMarks op b = false) (w : ∀ σ H Q, tM X.K c f σ H Q → tOp r ta tb σ H Q) : FT X c (.Compare a [op] [b] pos) (mTb f) :=
  (pt_cmpR ho ha hb hm).weak fun σ H Q ⟨S, env, d, env', E, e1, k⟩ => by
    unfold mTb at e1
    split at e1
    · rename_i b' e' q
      cases e1
      refine w σ H _ ⟨S, env, _, _, E, q, fun S1 H1 v E1 s1 r1 => ?_⟩
      cases r1
      exact ⟨_, rfl, k S1 H1 E1 s1⟩
    · cases e1
variable {fa fb : M D} {ha' hb' : M Hd} {k : Nat} {f' : Addr} {fd : FuncData} {ps : List Str} {φ : Fn} {cn : Str} {j}
theorem ft_inL (room : Room k X.A) (ha : FH X c a ha') (hb : FH X c b hb') (hm : behindInMarks .In b = false := by rfl) : FT X c (.Compare a [.In] [b] pos) (mTb (m2H (gInL false) ha' hb')) := ft_ofOp (op_inD (by have := room.un; omega)) ha hb hm (t2H o2_inL)
theorem ft_notInL (room : Room k X.A) (ha : FH X c a ha') (hb : FH X c b hb') (hm : behindInMarks .NotIn b = false := by rfl) : FT X c (.Compare a [.NotIn] [b] pos) (mTb (m2H (gInL true) ha' hb')) := ft_ofOp (op_notInD (by have := room.un; omega)) ha hb hm (t2H o2_notInL)
theorem ft_isN (ha : FH X c a ha') (hm : behindInMarks .Is (.Constant .none j pos') = false := by rfl) : FT X c (.Compare a [.Is] [.Constant .none j pos'] pos) (mTb (m1H gIsN ha')) :=
  ft_ofOp op_isN ha pe_non hm (t_isN gIsN (fun v => decide (v = V.non)) fun S H d z v q w => by cases q; rw [non_vw w])
theorem ft_notN (ha : FH X c a ha') (hm : behindInMarks .IsNot (.Constant .none j pos') = false := by rfl) : FT X c (.Compare a [.IsNot] [.Constant .none j pos'] pos) (mTb (m1H gNotN ha')) :=
  ft_ofOp op_notN ha pe_non hm (t_isN gNotN (fun v => !decide (v = V.non)) fun S H d z v q w => by cases q; rw [non_vw w])
theorem ft_eqX {j : Nat} (cf : ClsF X.K cn) (F : FnOk X.prog X.w X.K X.mg X.base CX0 k f' fd ps (spF X.K φ)) (hm : Meth X.K (He.ga X.K cn) "__eq__" f') (room : Room (k + 1) X.A) (hb : Binds X.K fd ps []) (ha : FE X c a fa) (hbb : FE X c b fb) (hbi : behindInMarks .Eq b = false := by rfl) :
    FT X c (.Compare a [.Eq] [b] pos) (mTb (mCmpX cn φ false fa fb)) := ft_ofOp (op2_or (op_eqX cf F hm (room.mono (by omega)) hb) (op2_or op_eq (op_eqD room.units))) ha hbb hbi (t_cmpX o2_eq)
theorem ft_neX {j : Nat} (cf : ClsF X.K cn) (F : FnOk X.prog X.w X.K X.mg X.base CX0 k f' fd ps (spF X.K φ)) (hm : Meth X.K (He.ga X.K cn) "__eq__" f') (room : Room (k + 1) X.A) (hb : Binds X.K fd ps []) (ha : FE X c a fa) (hbb : FE X c b fb) (hbi : behindInMarks .NotEq b = false := by rfl) :
    FT X c (.Compare a [.NotEq] [b] pos) (mTb (mCmpX cn φ true fa fb)) := ft_ofOp (op2_or (op_neX cf F hm room hb) (op2_or op_ne (op_neD room.units))) ha hbb hbi (t_cmpX o2_ne)
theorem t_inO (σ : L2.St) (H : Hp) (Q : VK) (h : tM X.K c (mInO cn φ fa fb) σ H Q) : tOp (rInO cn X.K φ) (tM X.K c fa) (tM X.K c fb) σ H Q := by
  obtain ⟨S, env, d, env', E, e1, kk⟩ := h
  unfold mInO at e1
  split at e1
  · rename_i da ea qa
    split at e1
    · rename_i c' fs eb qb
      split at e1
      · rename_i hc
        subst hc
        split at e1
        · rename_i r e3 q2
          cases e1
          refine ⟨S, env, da, ea, E, qa, fun S1 H1 v1 E1 s1 r1 => ⟨S1, ea, _, _, E1, qb, fun S2 H2 v2 E2 s2 r2 => ?_⟩⟩
          have r2' := r2
          cases r2 with
          | obj h r =>
            refine ⟨_, _, _, rfl, E2.sub _ _ h, ?_⟩
            refine ⟨_, S2, _, _, _, ER.args E2.sub (.cons r2' (.cons (r1.mono s2) .nil)), q2, fun S3 H3 v E3 s3 r3 => ?_⟩
            cases r3
            exact ⟨_, rfl, kk S3 H3 _ (E2.grow E3.s0 E3.sub E3.dom (fun b o z => E3.kep b o z fun _ z => nomatch z) E3.frs) ((s1.trans s2).trans s3) (.bl _)⟩
        · cases e1
      · cases e1
    · cases e1
  · cases e1
theorem t_inNO (σ : L2.St) (H : Hp) (Q : VK) (h : tM X.K c (mInNO cn φ fa fb) σ H Q) : tOp (rInNO cn X.K φ) (tM X.K c fa) (tM X.K c fb) σ H Q := by
  obtain ⟨S, env, d, env', E, e1, kk⟩ := h
  unfold mInNO m1 at e1
  split at e1
  · cases e1
  · rename_i d0 e0 q0
    split at e1
    · cases e1
    · rename_i z qz
      cases e1
      have h0 : tM X.K c (mInO cn φ fa fb) σ H (fun v H' => ∃ b, v = .bl b ∧ Q (.bl (!b)) H') := ⟨S, env, d0, _, E, q0, fun S1 H1 v E1 s1 r1 => by
        unfold gNot at qz
        split at qz
        · cases qz
          cases r1
          exact ⟨_, rfl, kk S1 H1 _ E1 s1 (.bl _)⟩
        · cases qz⟩
      have h1 := t_inO σ H _ h0
      obtain ⟨S1, env1, d1, env2, E1, q1, k1⟩ := h1
      refine ⟨S1, env1, d1, env2, E1, q1, fun S2 H2 v2 E2 s2 r2 => ?_⟩
      obtain ⟨S3, env3, d3, env4, E3, q3, k3⟩ := k1 S2 H2 v2 E2 s2 r2
      refine ⟨S3, env3, d3, env4, E3, q3, fun S4 H4 v4 E4 s4 r4 => ?_⟩
      obtain ⟨a, dx, fs, hy, ha, hsp⟩ := k3 S4 H4 v4 E4 s4 r4
      refine ⟨a, dx, fs, hy, ha, ?_⟩
      obtain ⟨L, S5, env5, d5, env6, E5, q5, k5⟩ := hsp
      refine ⟨L, S5, env5, d5, env6, E5, q5, fun S6 H6 v6 E6 s6 r6 => ?_⟩
      obtain ⟨b, hb, b', hb', q⟩ := k5 S6 H6 v6 E6 s6 r6
      subst hb
      cases hb'
      exact ⟨_, rfl, q⟩
theorem ft_inO (F : FnOk X.prog X.w X.K X.mg X.base CX0 k f' fd ps (spF X.K φ)) (hm : Meth X.K (He.ga X.K cn) "__contains__" f') (room : Room k X.A) (hb : Binds X.K fd ps []) (ha : FE X c a fa) (hbb : FE X c b fb) (hbi : behindInMarks .In b = false := by rfl) :
    FT X c (.Compare a [.In] [b] pos) (mTb (mInO cn φ fa fb)) := ft_ofOp (op_inO F hm room hb) ha hbb hbi t_inO
theorem ft_inNO (F : FnOk X.prog X.w X.K X.mg X.base CX0 k f' fd ps (spF X.K φ)) (hm : Meth X.K (He.ga X.K cn) "__contains__" f') (room : Room k X.A) (hb : Binds X.K fd ps []) (ha : FE X c a fa) (hbb : FE X c b fb) (hbi : behindInMarks .NotIn b = false := by rfl) :
    FT X c (.Compare a [.NotIn] [b] pos) (mTb (mInNO cn φ fa fb)) := ft_ofOp (op_inNO F hm room hb) ha hbb hbi t_inNO
end
end FL
namespace FL
open PySem PySem.Spec PyProof.Rows L2
theorem tg_tupK {X : Cx} {pos : Pos} {vs : List Nat} (K : PySem.W.Frag) (is : List Nat) {es : List Expr} {k n : Nat} (hK : X.K = K) (hc : X.calm = true) (h : PGs X es (gNames is)) (hl : is.length = n) (hi : ∀ i ∈ is, i ∈ vs) (hn : (assignEach es X.env).length = n := by rfl) (hst : (assignEach es X.env).findIdx? (·.1) = none := by rfl) :
    TgOk X vs (.Tuple es k pos) (gUn (is.map gSet)) (gTup K n (gNames is)) := by
  subst hK
  exact tg_tup hc h hl hi hn hst
end FL

set_option Elab.async false
set_option linter.all false
set_option maxRecDepth 100000
set_option maxHeartbeats 2000000
namespace FL
open PySem PySem.Spec PyProof.Rows L2
/-! ## a comprehension over an own list, which stays the def's own -/
noncomputable def keepB (i : Nat) (ds : List D) (e : En) : Bool := match e[i]? with
  | some (.ow _ (.lst xs)) => chk (xs = ds)
  | _ => false
theorem keepB_iff {i : Nat} {ds : List D} {e : En} (h : keepB i ds e = true) : ∃ f, e[i]? = some (.ow f (.lst ds)) := by
  unfold keepB at h
  split at h
  · rename_i f xs q
    have := chk_of h
    subst this
    exact ⟨f, q⟩
  · cases h
theorem keepB_yes {i : Nat} {ds : List D} {e : En} {f : Bool} (h : e[i]? = some (.ow f (.lst ds))) : keepB i ds e = true := by
  unfold keepB
  rw [h]
  exact chk_yes rfl
noncomputable def compH (i : Nat) (d0 : List D) (vs : List Nat) (set : FG) (t : M Bool) (el : M D) : List D → En → Option (List D × En)
  | [], e => bif keepB i d0 e then some ([], e) else none
  | d :: r, e => bif keepB i d0 e then (bif freeE vs e then (match set d (wipeE vs (lend e)) with
    | some e1 => (match t e1 with
      | some (b, e2) => bif b then (match el e2 with
          | some (x, e3) => (match compH i d0 vs set t el r (backC e e3) with
            | some (xs, e4) => some (x :: xs, e4)
            | none => none)
          | none => none) else compH i d0 vs set t el r (backC e e2)
      | none => none)
    | none => none) else none) else none
noncomputable def mCompH (i : Nat) (set : FG) (t : M Bool) (el : M D) (vs : List Nat) : M D := fun e => match e[i]? with
  | some (.ow _ (.lst ds)) => (match compH i ds vs set t el ds e with
    | some (xs, e2) => bif cLen xs.length then some (.lst xs, e2) else none
    | none => none)
  | _ => none
theorem compH_keep {i : Nat} {d0 : List D} {vs : List Nat} {set : FG} {t : M Bool} {el : M D} : ∀ {l : List D} {e : En} {r : List D × En}, compH i d0 vs set t el l e = some r → keepB i d0 e = true
  | [], e, r, h => by
    unfold compH at h
    cases hk : keepB i d0 e with
    | true => rfl
    | false => rw [hk] at h; cases h
  | d :: l, e, r, h => by
    unfold compH at h
    cases hk : keepB i d0 e with
    | true => rfl
    | false => rw [hk] at h; cases h
section
variable {K : PySem.W.Frag} {c : Ct} {S1 S H : Hp} {σ : L2.St} {Dd : Addr} {e : En} {xs : List D} {acc : List V} {vs : List Nat} {set : FG} {t : M Bool} {el : M D} {g : TG} {i : Nat} {d0 : List D}
theorem comp_turnH {ds ys : List D} {d : D} {v : V} {eF : En} (C : CS K c S1 σ Dd S H e xs acc) (rd : ∃ S', Same S' H ∧ Same S S' ∧ RelD K S d v) (q : compH i d0 vs set t el (d :: ds) e = some (ys, eF)) (hlen : xs.length + ys.length ≤ 1000000)
    (hg : ∀ (c : Ct) (S H : Hp) (σ : L2.St) (env e' : En) (d : D) (v : V) (Q : L2.St → Hp → Prop), Er K c S H σ env → RelD K S d v → set d env = some e' → (∀ σ', Er K c S H σ' e' → wipe σ' vs = wipe σ vs → Q σ' H) → g v σ H Q)
    (Pn : Hp → Prop) (nx : ∀ S2 H2 e2 xs2 acc2 ys2, CS K c S1 σ Dd S2 H2 e2 xs2 acc2 → compH i d0 vs set t el ds e2 = some (ys2, eF) → xs2 ++ ys2 = xs ++ ys → Pn H2) :
    g v (wipe σ vs) H fun σ2 H2 => wipe σ2 vs = wipe σ vs ∧ eT K t σ2 H2 fun b H3 => if b = true then eE K el σ2 H3 fun y H4 => ∃ acc, H4 Dd = some (.lst acc) ∧ acc.length < sizeLine ∧ Pn (upd H4 Dd (.lst (acc ++ [y]))) else Pn H3 := by
  have hk := compH_keep q
  unfold compH at q
  rw [hk] at q
  obtain ⟨_, _, _, rd⟩ := rd
  cases hf : freeE vs e with
  | false => rw [hf] at q; cases q
  | true =>
    rw [hf] at q
    have q' : (match set d (wipeE vs (lend e)) with
      | some e1 => (match t e1 with
        | some (b, e2) => bif b then (match el e2 with
            | some (x, e3) => (match compH i d0 vs set t el ds (backC e e3) with
              | some (xs, e4) => some (x :: xs, e4)
              | none => none)
            | none => none) else compH i d0 vs set t el ds (backC e e2)
        | none => none)
      | none => none) = some (ys, eF) := q
    have E1 := ER.wipes vs C.E.rebase (lentOf_free hf)
    have nlen : ∀ {e2 : En} {σ2 : L2.St} {S2 H2 : Hp}, ER K (lentOf σ e) S H S2 H2 σ2 e2 → wipe σ2 vs = wipe σ vs → e.length = e2.length := fun {e2 σ2 S2 H2} E2 w => by
      have h1 := congrArg List.length w
      rw [wipe_length, wipe_length] at h1
      rw [C.E.len, ← h1, E2.len]
    have fin : ∀ {e2 : En} {σ2 : L2.St} {S2 H2 : Hp}, ER K (lentOf σ e) S H S2 H2 σ2 e2 → wipe σ2 vs = wipe σ vs → CS K c S1 σ Dd S2 H2 (backC e e2) xs acc := fun {e2 σ2 S2 H2} E2 w => by
      refine ⟨ER.unbaseC C.E E2 (nlen E2 w), C.s.trans E2.s0, ?_, C.d0, fun j f x z => ?_, E2.kep Dd _ C.h fun i z => ?_, C.r.mono E2.s0⟩
      · cases e0 : S2 Dd with
        | none => rfl
        | some o =>
          rcases E2.frs Dd (by rw [e0]; exact fun z => nomatch z) with z | z
          · exact absurd C.d z
          · rw [C.h] at z; cases z
      · obtain ⟨y, z⟩ := backC_ow z
        exact C.fr j f y z
      · obtain ⟨f, d0, a, b⟩ := lentOf_some z
        exact C.fr i f d0 a b
    split at q'
    · rename_i e1 q1
      refine hg ⟨lentOf σ e, S, H⟩ S H (wipe σ vs) _ e1 d v _ E1 rd q1 fun σ2 E2 w2 => ?_
      have w2' : wipe σ2 vs = wipe σ vs := by rw [w2, wipe_self fun _ h => h]
      refine ⟨w2', ⟨lentOf σ e, S, H⟩, S, e1, ?_⟩
      split at q'
      · rename_i b e2 q2
        refine ⟨b, e2, E2, q2, fun S3 H3 E3 s3 => ?_⟩
        cases b with
        | false => exact iteF (nx S3 H3 _ xs acc ys (fin E3 w2') q' rfl)
        | true =>
          have q'' : (match el e2 with
            | some (x, e3) => (match compH i d0 vs set t el ds (backC e e3) with
              | some (xs, e4) => some (x :: xs, e4)
              | none => none)
            | none => none) = some (ys, eF) := q'
          refine iteT ⟨⟨lentOf σ e, S, H⟩, S3, e2, ?_⟩
          split at q''
          · rename_i x e3 q3
            split at q''
            · rename_i ys' e4 q4
              cases q''
              refine ⟨x, e3, E3, q3, fun S4 H4 y E4 s4 r4 => ?_⟩
              have C4 := fin E4 w2'
              refine ⟨acc, C4.h, ?_, nx S4 _ (backC e e3) (xs ++ [x]) (acc ++ [y]) ys' ?_ q4 (by simp)⟩
              · rw [← C4.r.length]
                rw [List.length_cons] at hlen
                exact Nat.lt_of_lt_of_le (by omega : xs.length < 1000000) (by decide)
              · exact ⟨C4.E.side C4.d C4.d0 C4.fr, C4.s, C4.d, C4.d0, C4.fr, upd_same, C4.r.append (.cons r4 .nil)⟩
            · cases q''
          · cases q''
      · cases q'
    · cases q'
end
section
variable {X : Cx} {c : Ct} {elt tg iter : Expr} {ifs : List Expr} {scope : Scope} {own : List (Str × Nat)} {pos : Pos} {set : FG} {t : M Bool} {el : M D} {g : TG} {i : Nat}
theorem t_compH (hg : ∀ (c : Ct) (S H : Hp) (σ : L2.St) (env e' : En) (d : D) (v : V) (Q : L2.St → Hp → Prop), Er X.K c S H σ env → RelD X.K S d v → set d env = some e' → (∀ σ', Er X.K c S H σ' e' → wipe σ' (own.map (·.2)) = wipe σ (own.map (·.2)) → Q σ' H) → g v σ H Q)
    (σ : L2.St) (H : Hp) (Q : VK) (h : tO X.K c (mCompH i set t el (own.map (·.2))) σ H Q) : tLc (iList X.K (tVar i)) g (eT X.K t) (eE X.K el) (own.map (·.2)) σ H Q := by
  obtain ⟨S, env, d, env', E, e1, kk⟩ := h
  unfold mCompH at e1
  split at e1
  · rename_i f0 ds qi
    split at e1
    · rename_i zs eF qc
      obtain ⟨hz, hp⟩ := bif_some e1
      cases hp
      have hz' : zs.length ≤ 1000000 := of_decide_eq_true hz
      obtain ⟨a, ha, ⟨us, hu, rs⟩, _, _⟩ := E.ow i f0 _ qi
      refine ⟨_, ha, a, rfl, ⟨us, .of hu⟩, fun Dd hD => ?_⟩
      -- at every turn the list stands there, with items for ds
      have st : ∀ {S2 H2 : Hp} {e2 : En} {xs : List D} {acc : List V}, CS X.K c S σ Dd S2 H2 e2 xs acc → keepB i ds e2 = true → ∃ ws, H2 a = some (.lst ws) ∧ RelDs X.K S2 ds ws := fun C hk => by
        obtain ⟨f, q⟩ := keepB_iff hk
        obtain ⟨a', ha', ⟨ws, hw, rw'⟩, _, _⟩ := C.E.ow i f _ q
        rw [ha] at ha'; cases ha'
        exact ⟨ws, hw, rw'⟩
      refine ⟨fun k m H => m = ds.length - k ∧ k ≤ ds.length ∧ ∃ S2 e xs acc ys, CS X.K c S σ Dd S2 H e xs acc ∧ compH i ds (own.map (·.2)) set t el (ds.drop k) e = some (ys, env') ∧ xs ++ ys = zs, ?_, ?_⟩
      · exact ⟨ds.length, by omega, Nat.zero_le _, S, env, [], [], zs, comp_start E hD, by rw [List.drop_zero]; exact qc, rfl⟩
      · rintro k m H' ⟨rfl, hk, S2, e, xs, acc, ys, C, q2, hy⟩
        obtain ⟨ws, hw, rw'⟩ := st C (compH_keep q2)
        have hl := rw'.length
        by_cases hlt : k < ds.length
        · have hx : ws[k]? = some (ws[k]'(by omega)) := List.getElem?_eq_getElem _
          refine .inr ⟨⟨ws, _, .of hw, hx⟩, fun H3 => ∃ S3 e3 xs3 acc3 ys3, CS X.K c S σ Dd S3 H3 e3 xs3 acc3 ∧ compH i ds (own.map (·.2)) set t el (ds.drop (k + 1)) e3 = some (ys3, env') ∧ xs3 ++ ys3 = zs, fun H3 h3 => ⟨ds.length - (k + 1), by omega, rfl, hlt, h3⟩, fun x H3 y => ?_⟩
          obtain ⟨rfl, y⟩ := y
          have hxx := y ws (.of hw)
          rw [List.drop_eq_getElem_cons hlt] at q2
          obtain ⟨x', hx', rx⟩ := rw'.get (List.getElem?_eq_getElem hlt)
          rw [hxx] at hx'; cases hx'
          refine comp_turnH C ⟨S2, C.E.sub, Same.refl _, rx⟩ q2 (by have := congrArg List.length hy; rw [List.length_append] at this; omega) hg _ fun S3 H3 e3 xs3 acc3 ys3 C3 q3 hy3 => ⟨S3, e3, xs3, acc3, ys3, C3, q3, hy3.trans hy⟩
        · have hkk : k = ds.length := by omega
          subst hkk
          rw [List.drop_eq_nil_of_le (Nat.le_refl _)] at q2
          have hkeep := compH_keep q2
          unfold compH at q2
          rw [hkeep] at q2
          cases q2
          rw [List.append_nil] at hy
          subst hy
          exact .inl ⟨⟨ws, .of hw, by omega⟩, comp_done C fun S' H' p E' s' => kk S' H' p E' s'⟩
    · cases e1
  · cases e1
theorem fo_compH {x : Str} {px : Pos} (hc : X.calm = true) (hN : X.N.Nodup) (ok : BlkOk X.N X.env.scope scope own) (hi : PE X (.Name x px) (tVar i))
    (hg : ∀ (s : Shared) (H : Hp) (C : Addr) (cl : List (Str × Addr)) (fp : List Addr), TgOk (X.blk s H scope (compEnvC scope cl C X.env) fp) (own.map (·.2)) tg set g) (ht : ∀ (s : Shared) (H : Hp) (C : Addr) (cl : List (Str × Addr)) (fp : List Addr), PTs (X.blk s H scope (compEnvC scope cl C X.env) fp) ifs (eT X.K t))
    (he : ∀ (s : Shared) (H : Hp) (C : Addr) (cl : List (Str × Addr)) (fp : List Addr), PE (X.blk s H scope (compEnvC scope cl C X.env) fp) elt (eE X.K el)) (hs : ∀ z, foldedSetIterable (.Name x px) X.env z = pure z := by intro _; rfl) :
    FO X c (.ListComp elt [⟨tg, .Name x px, ifs, 0⟩] scope pos) (mCompH i set t el (own.map (·.2))) :=
  (pe_lc hc hN (pi_list hi) ok (fun s H C cl fp => (hg s H C cl fp).1) ht he hs).weak (t_compH (hg X.s_0 (fun _ => none) 0 [] []).2)
end
end FL

set_option Elab.async false
set_option linter.all false
set_option maxRecDepth 100000
set_option maxHeartbeats 2000000
namespace FL
open PySem PySem.Spec PyProof.Rows L2
/-! ## comprehensions that change nothing: a filter, a map -/
/-- one turn: the test says b, the element is z, the slots stay -/
structure CT (vs : List Nat) (set : FG) (t : M Bool) (el : M D) (env : En) (d : D) (b : Bool) (z : D) : Prop where
  turn : ∃ e1 e2, set d (wipeE vs (lend env)) = some e1 ∧ t e1 = some (b, e2) ∧ backC env e2 = env ∧ (b = true → ∃ e3, el e2 = some (z, e3) ∧ backC env e3 = env)
theorem comp_map {α : Type} {vs : List Nat} {set : FG} {t : M Bool} {el : M D} {env : En} {g f : α → D} {p : α → Bool} (hf : freeE vs env = true) : ∀ (xs : List α), (∀ x ∈ xs, CT vs set t el env (g x) (p x) (f x)) → compF vs set t el (xs.map g) env = some ((xs.filter p).map f, env)
  | [], _ => rfl
  | x :: xs, h => by
    have ih := comp_map hf xs fun y hy => h y (List.mem_cons_of_mem _ hy)
    obtain ⟨e1, e2, h1, h2, h3, h4⟩ := (h x List.mem_cons_self).turn
    rw [List.map_cons]
    unfold compF
    rw [hf]
    show (match set (g x) (wipeE vs (lend env)) with
      | some e1 => (match t e1 with
        | some (b, e2) => bif b then (match el e2 with
            | some (x, e3) => (match compF vs set t el (xs.map g) (backC env e3) with
              | some (xs, e4) => some (x :: xs, e4)
              | none => none)
            | none => none) else compF vs set t el (xs.map g) (backC env e2)
        | none => none)
      | none => none) = _
    rw [h1]
    show (match t e1 with
        | some (b, e2) => bif b then (match el e2 with
            | some (x, e3) => (match compF vs set t el (xs.map g) (backC env e3) with
              | some (xs, e4) => some (x :: xs, e4)
              | none => none)
            | none => none) else compF vs set t el (xs.map g) (backC env e2)
        | none => none) = _
    rw [h2]
    cases hb : p x with
    | false =>
      show compF vs set t el (xs.map g) (backC env e2) = _
      rw [h3, ih, List.filter_cons, hb]
      rfl
    | true =>
      obtain ⟨e3, h5, h6⟩ := h4 hb
      show (match el e2 with
            | some (x, e3) => (match compF vs set t el (xs.map g) (backC env e3) with
              | some (xs, e4) => some (x :: xs, e4)
              | none => none)
            | none => none) = _
      rw [h5]
      show (match compF vs set t el (xs.map g) (backC env e3) with
              | some (xs, e4) => some (f x :: xs, e4)
              | none => none) = _
      rw [h6, ih, List.filter_cons, hb]
      rfl
theorem compH_map {α : Type} {i : Nat} {d0 : List D} {vs : List Nat} {set : FG} {t : M Bool} {el : M D} {env : En} {g f : α → D} {p : α → Bool} (hf : freeE vs env = true) (hk : keepB i d0 env = true) : ∀ (xs : List α), (∀ x ∈ xs, CT vs set t el env (g x) (p x) (f x)) → compH i d0 vs set t el (xs.map g) env = some ((xs.filter p).map f, env)
  | [], _ => by
    rw [List.map_nil]
    unfold compH
    rw [hk]
    rfl
  | x :: xs, h => by
    have ih := compH_map hf hk xs fun y hy => h y (List.mem_cons_of_mem _ hy)
    obtain ⟨e1, e2, h1, h2, h3, h4⟩ := (h x List.mem_cons_self).turn
    rw [List.map_cons]
    unfold compH
    rw [hk, hf]
    show (match set (g x) (wipeE vs (lend env)) with
      | some e1 => (match t e1 with
        | some (b, e2) => bif b then (match el e2 with
            | some (x, e3) => (match compH i d0 vs set t el (xs.map g) (backC env e3) with
              | some (xs, e4) => some (x :: xs, e4)
              | none => none)
            | none => none) else compH i d0 vs set t el (xs.map g) (backC env e2)
        | none => none)
      | none => none) = _
    rw [h1]
    show (match t e1 with
        | some (b, e2) => bif b then (match el e2 with
            | some (x, e3) => (match compH i d0 vs set t el (xs.map g) (backC env e3) with
              | some (xs, e4) => some (x :: xs, e4)
              | none => none)
            | none => none) else compH i d0 vs set t el (xs.map g) (backC env e2)
        | none => none) = _
    rw [h2]
    cases hb : p x with
    | false =>
      show compH i d0 vs set t el (xs.map g) (backC env e2) = _
      rw [h3, ih, List.filter_cons, hb]
      rfl
    | true =>
      obtain ⟨e3, h5, h6⟩ := h4 hb
      show (match el e2 with
            | some (x, e3) => (match compH i d0 vs set t el (xs.map g) (backC env e3) with
              | some (xs, e4) => some (x :: xs, e4)
              | none => none)
            | none => none) = _
      rw [h5]
      show (match compH i d0 vs set t el (xs.map g) (backC env e3) with
              | some (xs, e4) => some (f x :: xs, e4)
              | none => none) = _
      rw [h6, ih, List.filter_cons, hb]
      rfl
/-- a loop whose turns make one state of another: env by the state, what is left of the slots in between -/
theorem loop_st {α β : Type} {set : FG} {body : FS} (g : α → D) (step : β → α → β) (J : β → En → Prop) (ok : β → α → Prop) : ∀ (xs : List α) (s : β) (e : En), J s e → (∀ (s : β) (x : α) (e : En), x ∈ xs → J s e → ∃ e1 e2, set (g x) e = some e1 ∧ body e1 = some (.nx e2) ∧ J (step s x) e2) →
    ∃ e', loopF set body (xs.map g) e = some (.nx e') ∧ J (xs.foldl step s) e'
  | [], s, e, h, _ => ⟨e, rfl, h⟩
  | x :: xs, s, e, h, st => by
    obtain ⟨e1, e2, q1, q2, h2⟩ := st s x e List.mem_cons_self h
    obtain ⟨e3, q3, h3⟩ := loop_st g step J ok xs (step s x) e2 h2 fun s y e hy => st s y e (List.mem_cons_of_mem _ hy)
    refine ⟨e3, ?_, h3⟩
    rw [List.map_cons]
    unfold loopF
    rw [q1]
    show (match body e1 with
      | some (.nx e2) => loopF set body (xs.map g) e2
      | some (.ct e2) => loopF set body (xs.map g) e2
      | some (.bk e2) => some (.nx e2)
      | some (.rt d e2) => some (.rt d e2)
      | some (.ro d e2) => some (.ro d e2)
      | none => none) = _
    rw [q2]
    exact q3
end FL
namespace FL
open PySem PySem.Spec PyProof.Rows L2
/-! ## slots that nobody looks at, through a comprehension -/
def lendS : Sl → Sl
  | .ow _ d => .ow false d
  | s => s
theorem lend_nil : lend [] = [] := rfl
theorem lend_cons (x : Sl) (e : En) : lend (x :: e) = lendS x :: lend e := by
  unfold lend
  rw [List.map_cons]
  cases x <;> rfl
theorem lendS_sh (d : D) : lendS (.sh d) = .sh d := rfl
theorem lendS_un : lendS .un = .un := rfl
theorem lendS_ow (f : Bool) (d : D) : lendS (.ow f d) = .ow false d := rfl
theorem backCS_lendS (x : Sl) : backCS x (lendS x) = x := by cases x <;> rfl
theorem backCS_sh (d : D) (x : Sl) : backCS (.sh d) x = .sh d := by cases x <;> rfl
theorem backCS_un (x : Sl) : backCS .un x = .un := by cases x <;> rfl
theorem backCS_ow (f g : Bool) (d d' : D) : backCS (.ow f d) (.ow g d') = .ow f d' := rfl
theorem backC_nil : backC [] [] = [] := rfl
theorem backC_cons (x y : Sl) (e e' : En) : backC (x :: e) (y :: e') = backCS x y :: backC e e' := rfl
theorem isOw_un : isOw .un = false := rfl
theorem isOw_sh (d : D) : isOw (.sh d) = false := rfl
end FL
namespace FL
open PySem PySem.Spec PyProof.Rows L2
/-- .. with the number of turns that are done -/
theorem loop_ix {set : FG} {body : FS} (I : Nat → En → Prop) : ∀ (ds : List D) (k : Nat) (e : En), I k e → (∀ d ∈ ds, ∀ k e, I k e → ∃ e1 e2, set d e = some e1 ∧ body e1 = some (.nx e2) ∧ I (k + 1) e2) → ∃ e', loopF set body ds e = some (.nx e') ∧ I (k + ds.length) e'
  | [], k, e, h, _ => ⟨e, rfl, h⟩
  | d :: ds, k, e, h, st => by
    obtain ⟨e1, e2, q1, q2, h2⟩ := st d List.mem_cons_self k e h
    obtain ⟨e3, q3, h3⟩ := loop_ix I ds (k + 1) e2 h2 fun d hd => st d (List.mem_cons_of_mem _ hd)
    refine ⟨e3, ?_, by rw [List.length_cons]; have e : k + (ds.length + 1) = k + 1 + ds.length := by omega
                       rw [e]; exact h3⟩
    unfold loopF
    rw [q1]
    show (match body e1 with
      | some (.nx e2) => loopF set body ds e2
      | some (.ct e2) => loopF set body ds e2
      | some (.bk e2) => some (.nx e2)
      | some (.rt d e2) => some (.rt d e2)
      | some (.ro d e2) => some (.ro d e2)
      | none => none) = _
    rw [q2]
    exact q3
end FL
namespace FL
open PySem PySem.Spec PyProof.Rows L2
/-! ## step by step -/
section
variable {e e1 e2 e3 : En} {f g : FS} {t a b : M Bool} {m : M D} {d : D} {o : Out}
theorem seq_nx (h : f e = some (.nx e1)) : sSeq f g e = g e1 := by unfold sSeq; rw [h]
theorem asg_nx {s : FG} (h : m e = some (d, e1)) (h2 : s d e1 = some e2) : sAsg s m e = some (.nx e2) := by
  unfold sAsg; rw [h]
  show (match s d e1 with
    | some e2 => some (Out.nx e2)
    | none => none) = _
  rw [h2]
theorem if_no (h : t e = some (false, e1)) : sIf t f g e = g e1 := by unfold sIf; rw [h]; rfl
theorem if_yes (h : t e = some (true, e1)) : sIf t f g e = f e1 := by unfold sIf; rw [h]; rfl
theorem or_ff (ha : a e = some (false, e1)) (hb : b e1 = some (false, e2)) : mTOr a b e = some (false, e2) := by unfold mTOr; rw [ha]; exact hb
theorem forR_c {s : FG} {i : Int} {n : Nat} (hi : i = (n : Int)) (hr : rgOk i = true) (q : loopF s f (upTo n) e = some o) : sForR (mCons (mC (.int i)) mNil) s f e = some o := by
  unfold sForR
  have hm : mCons (mC (.int i)) mNil e = some ([.int i], e) := rfl
  rw [hm]
  show (if rgOk i = true then loopF s f (upTo i.toNat) e else none) = _
  rw [if_pos hr, hi, Int.toNat_natCast]
  exact q
theorem forL_c {s : FG} {ds : List D} (h : m e = some (.lst ds, e1)) (q : loopF s f ds e1 = some o) : sForL m s f e = some o := by
  unfold sForL
  rw [h]
  exact q
theorem own_nx {i : Nat} {s : Sl} (h : m e = some (d, e1)) (hs : e1[i]? = some s) (hl : lentS s = false) : sOwn i m e = some (.nx (e1.set i (.ow true d))) := by
  unfold sOwn
  rw [h]
  simp only [hs, hl, Bool.false_eq_true, if_false]
end
end FL

namespace FL
open PySem PySem.Spec PyProof.Rows L2
set_option maxRecDepth 100000
set_option maxHeartbeats 4000000
set_option linter.all false
/-! ## how many are True, of two -/
def eqkB (k : Bool) (v : Value) : Bool := match v with
  | .bool b => b == k
  | _ => false
theorem eqkB_at {k : Bool} (A : Around) (s : Shared) : ∀ {us : List Value} {bs : List Bool}, Vals (bs.map V.bl) us → ∀ y ∈ us, SeqAt.EqAt A s y (.bool k) (eqkB k y)
  | us, [], r, y, hy => by
    rw [List.map_nil] at r
    cases r
    cases hy
  | us, b :: bs, r, y, hy => by
    rw [List.map_cons] at r
    cases r with
    | cons r1 r2 =>
      cases r1
      rcases List.mem_cons.mp hy with e | e
      · rw [e]; exact SeqAt.EqAt.bool_bool b k
      · exact eqkB_at A s r2 y e
theorem eqkB_count {k : Bool} : ∀ {us : List Value} {bs : List Bool}, Vals (bs.map V.bl) us → us.countP (eqkB k) = bs.count k
  | us, [], r => by
    rw [List.map_nil] at r
    cases r
    rfl
  | us, b :: bs, r => by
    rw [List.map_cons] at r
    cases r with
    | cons r1 r2 =>
      cases r1
      have ih := eqkB_count (k := k) r2
      rw [List.countP_cons, List.count_cons, ih] <;> rfl
def rCntB (K : PySem.W.Frag) : V → List V → Hp → VK → Prop := fun x xs H Q => ∃ (p : Addr) (bs : List Bool) (k : Bool), x = .ref p ∧ xs = [.bl k] ∧ SqL K H p (bs.map V.bl) ∧ Q (.int (bs.count k : Nat)) H
theorem mt_lcountB {X : Cx} : MtR X "list.count" (rCntB X.K) := by
  intro pins s σ H x xs v us Q I rx rxs h
  obtain ⟨p, bs, k, rfl, rfl, hs, q⟩ := h
  cases rx
  obtain ⟨u, rfl, ru⟩ := rxs.one
  cases ru
  obtain ⟨its, rv, ⟨⟨cls, dd, data, sl⟩, n, ho, hc, hdn, hd⟩, hlen⟩ := I.list hs
  simp only at hc hd
  subst hc hd
  refine call_meets PySem.F.slot_list_count ⟨_, ho, rfl⟩ PySem.F.entry_list_count (PySem.F.args_list_count_2 _ _)
    (SeqAt.list_countAt p its.toArray n dd sl (.bool k) (eqkB k)) ⟨ho, fun y hy => eqkB_at _ _ rv y (by simpa using hy), ?_⟩
  have ec : its.toArray.toList.countP (eqkB k) = bs.count k := eqkB_count rv
  refine ⟨.int (bs.count k : Nat), H, I.tok _, ⟨s.toks, ?_⟩, q⟩
  show Value.int ((its.toArray.toList.countP (eqkB k) : Nat) : Int) s.toks = Value.int ((bs.count k : Nat) : Int) s.toks
  rw [ec]
section
variable {X : Cx} {c : Ct} {o : Expr} {apos cpos p : Pos} {j : Nat} {fo : M D}
theorem f_countT (ho : FE X c o fo) (hbase : attributeBase o "count" X.env (eval o X.env) = eval o X.env := by rfl)
    (hfew : ((backTo cpos (starEach [Expr.Constant (.bool true) j p] X.env)).all (fun x => !x.1) && (backToKw cpos (keywordEach [] X.env)).all (fun x => x.1.isSome) && decide (([Expr.Constant (.bool true) j p] : List Expr).length + ([] : List Keyword).length + (if ([] : List Keyword).isEmpty then 0 else 1) < 30)) = true := by rfl)
    (hline : (apos.endLine == cpos.line) = true := by rfl) (hs : starEach [Expr.Constant (.bool true) j p] X.env = (false, eval (Expr.Constant (.bool true) j p) X.env) :: starEach [] X.env := by rfl) (hpl : (backTo cpos (starEach ([] : List Expr) X.env)).any (·.1) = false := by rfl) :
    FE X c (.Call (.Attribute o "count" apos) [.Constant (.bool true) j p] [] cpos) (m1 gCountT fo) :=
  (pe_bm PySem.F.plainAttrs_list PySem.F.slot_list_count PySem.F.type_list_count (mt_lcountB (X := X)) ho (pa_cons pe_bl pa_nil hs) hbase hfew hline hs hpl).weak fun σ H Q ⟨S, env, d, env', E, e1, kk⟩ => by
    unfold m1 at e1
    split at e1
    · cases e1
    · rename_i da ea qa
      split at e1
      · cases e1
      · rename_i z qz
        cases e1
        refine ⟨S, env, da, _, E, qa, fun S1 H1 v1 E1 s1 r1 => ?_⟩
        unfold gCountT at qz
        split at qz
        · rename_i a b
          cases qz
          cases r1 with
          | lst h rs =>
            cases rs with
            | cons r1 rs =>
              cases rs with
              | cons r2 rs =>
                cases rs
                cases r1; cases r2
                refine ⟨.inl ⟨rfl, _, .of (E1.sub _ _ h)⟩, ?_⟩
                refine ⟨_, [a, b], true, rfl, rfl, .of (E1.sub _ _ h), ?_⟩
                have e : (([a, b].count true : Nat) : Int) = (a.toNat + b.toNat : Int) := by cases a <;> cases b <;> rfl
                rw [e]
                exact kk S1 H1 _ E1 s1 (.int _)
        · cases qz
end
end FL

namespace FL
open PySem PySem.Spec PyProof.Rows L2
set_option maxRecDepth 100000
set_option maxHeartbeats 4000000
set_option linter.all false
/-! ## class methods -/
def cmA (K : PySem.W.Frag) (cn m : Str) : Addr := He5.wf K (He.ga K cn) "classmethod" m
def cmB (K : PySem.W.Frag) (cn m : Str) : Bool := PySem.W.readsIn K (He.ga K cn) (.type "type") && (He.eqO (PySem.W.specialIn K (.ref (He.ga K cn)) "__getattribute__") (some (some (.builtin "type.__getattribute__"))) && (He5.wrapB K (He.ga K cn) "classmethod" "classmethod.__get__" m && PySem.W.fnIn K (cmA K cn m)))
structure CmF (K : PySem.W.Frag) (cn m : Str) : Prop where
  rd : ClX.CRead K (He.ga K cn) (.type "type")
  me : ClX.CMet K (He.ga K cn) (.type "type") m (He.ma K (He.ga K cn) m) (cmA K cn m)
theorem cmB_ok {K : PySem.W.Frag} {cn m : Str} (h : cmB K cn m = true) : CmF K cn m := by
  obtain ⟨h1, h⟩ := and_both h
  obtain ⟨h2, h⟩ := and_both h
  obtain ⟨h3, h4⟩ := and_both h
  exact ⟨⟨h1, He.eqO_ok h2⟩, He5.cmet_of h3 h4⟩
abbrev AlY : Type := AlX × List He.FnW × Bool
/-- the text, the class register with it -/
def kY (g : Addr → Option Obj) (n : Nat) : PySem.W.Frag := He.frG g (cStatics :: He.asD g n)
def obsY (n : Nat) (fa : List He.Fa) (fn : List He.DefD) (gs : List Gt) (xs : PySem.W.Frag → Bool) (cs : List Gt) (g : Addr → Option Obj) : AlY :=
  ((He.obsD fa fn (kY g n), gs.map (fun q => fnA (kY g n) (pgA (kY g n) q.cn q.f)),
    sysD g && (gs.all (fun q => propB (kY g n) q.cn q.f && okA (kY g n) q.d (pgA (kY g n) q.cn q.f)) && xs (kY g n))), cs.map (fun q => fnA (kY g n) (cmA (kY g n) q.cn q.f)),
    cs.all (fun q => cmB (kY g n) q.cn q.f && okA (kY g n) q.d (cmA (kY g n) q.cn q.f)))
structure SaysY (fa : List He.Fa) (fn : List He.DefD) (gs : List Gt) (xs : PySem.W.Frag → Bool) (cs : List Gt) (K : PySem.W.Frag) : Prop extends SaysX fa fn gs xs K where
  c : cs.map (fun q => fnA K (cmA K q.cn q.f)) = cs.map (·.d.val)
  m : cs.all (fun q => cmB K q.cn q.f && okA K q.d (cmA K q.cn q.f)) = true
theorem SaysY.cmeth {fa : List He.Fa} {fn : List He.DefD} {gs : List Gt} {xs : PySem.W.Frag → Bool} {cs : List Gt} {K : PySem.W.Frag} (s : SaysY fa fn gs xs cs K) (i : Nat) {q : Gt} (h : cs[i]? = some q := by rfl) :
    CmF K q.cn q.f ∧ ∃ fd, FunD K q.d.name q.d.qual q.d.params q.d.body q.d.scope (q.d.dvs K) (q.d.kws K) (cmA K q.cn q.f) fd := by
  obtain ⟨a, b⟩ := and_both (List.all_eq_true.mp s.m q (List.mem_of_getElem? h))
  refine ⟨cmB_ok a, funA ?_ b⟩
  have e2 : (cs.map (fun q => fnA K (cmA K q.cn q.f)))[i]? = (cs.map (·.d.val))[i]? := by rw [s.c]
  rw [List.getElem?_map, List.getElem?_map, h] at e2
  exact Option.some.inj e2
def hookY (n : Nat) (fa : List He.Fa) (fn : List He.DefD) (gs : List Gt) (xs : PySem.W.Frag → Bool) (cs : List Gt) : PySem.W.Hook where
  α := AlY
  obs := fun s => obsY n fa fn gs xs cs s.heap.get?
  val := fun _ => ((He.valD fn, gs.map (·.d.val), true), cs.map (·.d.val), true)
  says := fun _ h => (∃ K : PySem.W.Frag, K.In h ∧ SaysY fa fn gs xs cs K) ∧ SysB h
  of := fun w s e => by
    have e1 := congrArg (fun z : AlY => z.1) e
    have e2 := congrArg (fun z : AlY => z.2.1) e
    have e3 := congrArg (fun z : AlY => z.2.2) e
    obtain ⟨b1, b2⟩ := and_both (congrArg (fun z : AlX => z.2.2) e1)
    obtain ⟨b3, b4⟩ := and_both b2
    exact ⟨⟨_, He.frG_in, ⟨congrArg (fun z : AlX => z.1) e1, congrArg (fun z : AlX => z.2.1) e1, b3, b4⟩, e2, e3⟩, sysD_ok b1⟩
  keeps := fun w h h' ⟨⟨K, a, c⟩, o, es, n', e, d⟩ k => ⟨⟨K, PySem.W.Frag.In.keeps a k, c⟩, o, es, n', k _ _ e, d⟩
theorem obsY_eq {n : Nat} {fa : List He.Fa} {fn : List He.DefD} {gs : List Gt} {xs : PySem.W.Frag → Bool} {cs : List Gt} {g : Addr → Option Obj} {s : Shared} (h : ∀ a, g a = s.heap.get? a) : obsY n fa fn gs xs cs g = (hookY n fa fn gs xs cs).obs s := by
  have e : g = s.heap.get? := funext h
  rw [e] <;> rfl
/-! the call of one, by the class's own name -/
def mCMeth (cn : Str) (φ : Fn) (fr : M (List D)) : M D := fun e => match fr e with
  | some (ds, e1) => (match φ (.sh (.kls cn) :: ds.map .sh) with
    | some (r, _) => some (r, e1)
    | none => none)
  | none => none
section
variable {X : Cx} {c : Ct} {e : Expr} {es : List Expr} {k i : Nat} {f : Addr} {φ : Fn} {cn m x y : Str} {p p2 pos apos sp_ : Pos} {fe : M D} {fr : M (List D)} {fd : FuncData} {ps : List Str}
theorem t_cmeth (σ : L2.St) (H : Hp) (Q : VK) (h : tM X.K c (mCMeth cn φ fr) σ H Q) : ClX.tCMeth (He.ga X.K cn) (fun vs H Q E => spF X.K φ (vs ++ []) H Q E) E0 (tC (.ref (He.ga X.K cn))) (tMs X.K c fr) σ H Q := by
  obtain ⟨S, env, d, env', E, e1, kk⟩ := h
  unfold mCMeth at e1
  split at e1
  · rename_i ds e2 qr
    split at e1
    · rename_i r e3 q2
      cases e1
      refine ⟨rfl, S, env, ds, _, E, qr, fun S2 H2 vs E2 s2 r2 => ?_⟩
      show spF X.K φ (V.ref _ :: (vs ++ [])) H2 Q E0
      rw [List.append_nil]
      refine ⟨_, S2, _, _, _, ER.args (ds := .kls cn :: ds) (vs := _ :: vs) E2.sub (.cons (.kls cn) r2), q2, fun S3 H3 v E3 s3 r3 => ?_⟩
      exact kk S3 H3 v (E2.grow E3.s0 E3.sub E3.dom (fun b o z => E3.kep b o z fun _ z => nomatch z) E3.frs) (s2.trans s3) r3
    · cases e1
  · cases e1
theorem f_cmeth {pl : Sem Bool} (cf : CmF X.K cn m) (F : FnOk X.prog X.w X.K X.mg X.base CX0 k (cmA X.K cn m) fd ps (spF X.K φ)) (room : Room k X.A) (hb : Binds X.K fd ps []) (hgT : Gl X y) (hmT : X.mg y = some (.ref (He.ga X.K cn))) (hr : FA X c (e :: es) fr)
    (hdb : (y == ("__debug__" : Str)) = false := by decide)
    (hst : starEach (e :: es) X.env = (false, eval e X.env) :: starEach es X.env := by rfl) (hpl : (backTo pos (starEach es X.env)).any (·.1) = false := by rfl)
    (ht : eval (.Call (.Attribute (.Name y p2) m apos) (e :: es) [] pos) X.env = (do
      let ov ← eval (.Name y p2) X.env
      standAt apos.atName
      let (f, first) ← holding [ov] (getMethod ov m pl)
      callWith pos f first (backTo pos (starEach (e :: es) X.env)) (backToKw pos (keywordEach [] X.env))) := by rfl) :
    FE X c (.Call (.Attribute (.Name y p2) m apos) (e :: es) [] pos) (mCMeth cn φ fr) :=
  (ClX.pe_cmeth (pe_glob (v := .ref (He.ga X.K cn)) hgT hmT rfl hdb) cf.rd cf.me (F.raw hb .nil) room pass0 hr hst hpl ht).weak t_cmeth
/-! cls(*e), cls a class in a variable -/
noncomputable def mMakeV (i : Nat) (cn : Str) (φ : Fn) (fa : M (List D)) : M D := fun e => match e[i]? with
  | some (.sh (.kls c)) => if c = cn then mMakeS cn φ fa e else none
  | _ => none
theorem pe_makeSv {CX : CXT} {C : Addr} {sp : Sp} {E : XK} {te : TE} (M : Mk X.K C f) (F : FnR X.prog X.w X.K X.mg X.base CX k f sp) (hr : Room (k + 1) X.A) (hi : PE X (.Name x p) (tVar i)) (hx : Passes CX X E) (he : PE X e te)
    (hst : starEach [.Starred e sp_] X.env = [(true, eval e X.env)] := by rfl) : PE X (.Call (.Name x p) [.Starred e sp_] [] pos) (fun σ H Q => σ[i]? = some (some (.ref C)) ∧ StX.tMakeR C sp E (StX.tStar X.K te tNil) σ H Q) := by
  refine ⟨fun pins s σ H Q I ⟨hv, h⟩ => ?_⟩
  refine wpAny_Call_Name_kw (thn (hi.run pins s σ H (fun v H1 => v = .ref C ∧ H1 = H) I ⟨_, hv, rfl, rfl⟩) fun v0 s0 ⟨y0, H0, I0, ry0, ey0, eH0⟩ => ?_)
  subst ey0 eH0
  obtain rfl : v0 = Value.ref C := ry0
  refine PySem.W.callWith_S (h₀ := X.base) I0.ok.mod.kin M.kp (thn (he.run pins s0 σ H0 _ I0 h) fun v s1 ⟨y, H1, I1, ry, a, xs, ey, hxs, q⟩ => ?_) hst
  subst ey
  obtain rfl : v = Value.ref a := ry
  refine StX.star_any I1 hxs fun us s2 I2 rv => ⟨I2.kIn, ?_⟩
  exact StX.run_makeR (us := us) (vs := xs ++ []) M F hr hx I2 (by rw [List.append_nil]; exact rv) q
theorem fo_makeSv (M : Mk X.K (He.ga X.K cn) f) (F : FnR X.prog X.w X.K X.mg X.base CX0 k f (spS X.K φ)) (room : Room (k + 1) X.A) (hi : PE X (.Name x p) (tVar i)) (he : FE X c e fe)
    (hst : starEach [.Starred e sp_] X.env = [(true, eval e X.env)] := by rfl) : FO X c (.Call (.Name x p) [.Starred e sp_] [] pos) (mMakeV i cn φ (mStar fe mNil)) :=
  (pe_makeSv M F room hi pass0 he hst).weak fun σ H Q ⟨S, env, d, env', E, e1, kk⟩ => by
    unfold mMakeV at e1
    split at e1
    · rename_i c' q1
      split at e1
      · rename_i hc
        subst hc
        obtain ⟨v, a, r⟩ := E.sh i _ q1
        cases r
        refine ⟨a, ?_⟩
        have h1 := t_makeS M σ H Q ⟨S, env, d, env', E, e1, kk⟩
        have h2 := t_star σ H _ h1
        obtain ⟨S, env, d, env', E, e1, kk⟩ := h2
        refine ⟨S, env, d, env', E, e1, fun S1 H1 v E1 s1 r1 => ?_⟩
        obtain ⟨p, xs, ev, hx, S2, env2, ds, env3, E2, q2, k2⟩ := kk S1 H1 v E1 s1 r1
        cases q2
        exact ⟨p, xs, ev, hx, k2 S2 H1 [] E2 (Same.refl _) .nil⟩
      · cases e1
    · cases e1
end
end FL

namespace FL
open PySem PySem.Spec PyProof.Rows L2
set_option maxRecDepth 100000
set_option maxHeartbeats 4000000
set_option linter.all false
/-! ## x, y = e, [..]: the second a new object -/
def sParO (i j : Nat) (f g : M D) : FS := fun e => match f e with
  | some (d1, e1) => (match g e1 with
    | some (d2, e2) => (match gSet i d1 e2 with
      | some e3 => (match e3[j]? with
        | some s => if lentS s = true then none else some (.nx (e3.set j (.ow true d2)))
        | none => none)
      | none => none)
    | none => none)
  | none => none
section
variable {X : Cx} {c : Ct} {a b : Expr} {pos px py pt pt2 : Pos} {kt k2}
theorem fs_parO {i j : Nat} {x y : Str} {f g : M D} (hc : X.calm = true) (hN : X.N.Nodup) (hi : X.N[i]? = some x) (hj : X.N[j]? = some y) (hij : i ≠ j) (hx : X.env.scope.names.lookup x = some .local) (hy : X.env.scope.names.lookup y = some .local) (ha : FE X c a f) (hb : FO X c b g)
    (hw : swappedStores [.Tuple [.Name x px, .Name y py] kt pt] (.Tuple [a, b] k2 pt2) X.env = pure (some [x, y])) (hs : swapsWithSole [.Tuple [.Name x px, .Name y py] kt pt] (.Tuple [a, b] k2 pt2) pos.line X.env = pure false := by rfl)
    (h1 : starEach [a, b] X.env = (false, eval a X.env) :: starEach [b] X.env := by rfl) (h2 : starEach [b] X.env = (false, eval b X.env) :: starEach [] X.env := by rfl) :
    FSt X c (.Assign [.Tuple [.Name x px, .Name y py] kt pt] (.Tuple [a, b] k2 pt2) pos) (sParO i j f g) := (ps_par hc hN hi hj hij hx hy (pa_cons ha (pa_cons hb pa_nil h2) h1) hw hs).weak fun D' σ H ⟨S, env, o, E, e1, k⟩ => by
  unfold sParO at e1
  split at e1
  · rename_i d1 ea qa
    split at e1
    · rename_i d2 eb qb
      split at e1
      · rename_i ec qc
        split at e1
        · rename_i s qs
          split at e1
          · cases e1
          · rename_i hl
            cases e1
            refine ⟨S, env, d1, ea, E, qa, fun S1 H1 v E1 s1 r1 => ⟨S1, ea, d2, eb, E1, qb, fun S2 H2 p E2 s2 o2 z2 n2 fr => ⟨v, .ref p, rfl, ?_⟩⟩⟩
            have E3 := gSet_ok E2 qc (r1.mono s2)
            have hec : ∃ s', ec = eb.set i (.sh d1) ∧ eb[i]? = some s' := by
              unfold gSet at qc
              split at qc
              · rename_i s' q'
                split at qc
                · cases qc
                · cases qc; exact ⟨s', rfl, q'⟩
              · cases qc
            obtain ⟨s', rfl, qi⟩ := hec
            refine k S2 H2 _ (E3.putOwn (fun e z => by rw [qs] at z; exact lentS_no hl (Option.some.inj z)) o2 z2 n2 fun j' f e _ q => ?_) (s1.trans s2)
            by_cases hj' : j' = i
            · subst hj'
              obtain ⟨hlt, _⟩ := List.getElem?_eq_some_iff.mp qi
              rw [List.getElem?_set_self hlt] at q
              cases q
            · rw [List.getElem?_set_ne (Ne.symm hj')] at q ⊢
              exact fr j' f e q
        · cases e1
      · cases e1
    · cases e1
  · cases e1
end
end FL

set_option Elab.async false
set_option linter.all false
set_option maxRecDepth 100000
set_option maxHeartbeats 4000000
namespace PL
open PySem PySem.Spec PyProof.Rows L2 FL
noncomputable def B__law_tape : FS := (sSeq (sAsg (gSet 2) (mAddA (mV (mC (.int 97))) (mV (mMulA (mHs 1) (mV (mC (.int 31)))))))
  (sSeq (sForL (mVar 0) (gSet 3) (sAsg (gSet 2) (mAddA (mV (mMod (mPow (mAddA (mV (mAddA (mV (mMulA (mHs 2) (mV (mC (.int 30011))))) (mV (mMulA (mHs 3) (mHs 3))))) (mV (mC (.int 7)))) (mC (.int 2))) (mC (.int 2147483563)))) (mV (mC (.int 2))))))
  (sSeq (sAsg (gSet 4) (mIf (mTAnd (mTb (mLt (mHs 1) (mV (m1H gLen (mHs 0))))) (mTb (mGe (mV (m2H gIx (mHs 0) (mHs 1))) (mV (mPow (mC (.int 10)) (mC (.int 18))))))) (mSub (m2H gIx (mHs 0) (mHs 1)) (mPow (mC (.int 10)) (mC (.int 18)))) (mC (.int 0))))
  (sRetO (mDicN [("digits", 4), ("mixed", 2)])))))
noncomputable def F__law_tape : Fn := mkFnO 5 2 B__law_tape
noncomputable def B__law_pick : FS := (sSeq (sIf (mTb (mGe (mV (m2H gDGet (mHs 0) (mV (mC (.str "digits"))))) (mHs 1))) (sSeq (sAsg (gSet 2) (mMod (m2H gDGet (mHs 0) (mV (mC (.str "digits")))) (mVar 1)))
  (sSeq (sDPutD 0 (.inr "digits") (mDiv (m2H gDGet (mHs 0) (mV (mC (.str "digits")))) (mVar 1)))
  (sRet (mVar 2)))) sNil)
  (sSeq (sDPutD 0 (.inr "mixed") (mMod (mAddA (mV (mMulA (mV (m2H gDGet (mHs 0) (mV (mC (.str "mixed"))))) (mV (mC (.int 40014))))) (mV (mC (.int 1013)))) (mC (.int 2147483563))))
  (sRet (mMod (mDiv (mMod (mPow (mMod (mPow (m2H gDGet (mHs 0) (mV (mC (.str "mixed")))) (mC (.int 2))) (mC (.int 2147483399))) (mC (.int 3))) (mC (.int 998244353))) (mC (.int 5))) (mVar 1)))))
noncomputable def F__law_pick : Fn := mkFn 3 2 B__law_pick
noncomputable def B__law_one_of : FS := (sRet (m2H gIx (mHs 1) (mV (mCallO F__law_pick 0 (mCons (m1H gLen (mHs 1)) mNil)))))
noncomputable def F__law_one_of : Fn := mkFn 2 2 B__law_one_of
noncomputable def B__law_pair : FS := (sSeq (sAsg (gSet 1) (mCallO F__law_pick 0 (mCons (mC (.int 13)) mNil)))
  (sSeq (sAsg (gSet 2) (mTup (mCons (mVar 1) (mCons (mAddA (mHs 1) (mV (mCallO F__law_pick 0 (mCons (mCallO F__law_one_of 0 (mCons (mLst (mCons (mC (.int 1)) (mCons (mC (.int 4)) (mCons (mC (.int 9)) mNil)))) mNil)) mNil)))) mNil))))
  (sRet (mCallO F__law_one_of 0 (mCons (mAddA (mV (mMulA (mV (mLst (mCons (mVar 2) mNil))) (mV (mC (.int 9))))) (mV (mLst (mCons (mTup (mCons (mC (.int 0)) (mCons (mPow (mC (.int 10)) (mC (.int 6))) mNil))) (mCons (mTup (mCons (mC (.int 0)) (mCons (mC (.int 0)) mNil))) (mCons (mTup (mCons (mPow (mC (.int 10)) (mC (.int 6))) (mCons (mPow (mC (.int 10)) (mC (.int 6))) mNil))) mNil)))))) mNil)))))
noncomputable def F__law_pair : Fn := mkFn 3 1 B__law_pair
noncomputable def B__law_pairs : FS := (sRet (mCompR (mCons (mCallO F__law_pick 0 (mCons (mAddA (mHs 1) (mV (mC (.int 1)))) mNil)) mNil) (gSet 2) mYes (mCallO F__law_pair 0 mNil) [2]))
noncomputable def F__law_pairs : Fn := mkFn 3 2 B__law_pairs
noncomputable def B_is_whole : FS := (sRet (mAnd (m1H (gIsi "int") (mHs 0)) (m1 gNot (m1H (gIsi "bool") (mHs 0)))))
noncomputable def F_is_whole : Fn := mkFn 1 1 B_is_whole
noncomputable def B_is_day : FS := (sRet (mAnd (mCall F_is_whole (mCons (mVar 0) mNil)) (mChain (gB fun i j => decide (i ≤ j)) (gB fun i j => decide (i ≤ j)) (mC (.int 0)) (mVar 0) (mC (.int 1000000)))))
noncomputable def F_is_day : Fn := mkFn 1 1 B_is_day
noncomputable def B_is_pair : FS := (sSeq (sIf (mTNot (mTAnd (mTb (m1H (gIsi "tuple") (mHs 0))) (mTb (m2H gEq (mV (m1H gLen (mHs 0))) (mV (mC (.int 2))))))) (sRet (mC (.bl false))) sNil)
  (sSeq (sAsg (gUn [(gSet 1), (gSet 2)]) (mVar 0))
  (sRet (mAnd (mCall F_is_day (mCons (mVar 1) mNil)) (mAnd (mCall F_is_day (mCons (mVar 2) mNil)) (mLe (mHs 1) (mHs 2)))))))
noncomputable def F_is_pair : Fn := mkFn 3 1 B_is_pair
noncomputable def B__corners_among : FS := (sSeq (sOwn 1 (mMk gLstD mNil))
  (sSeq (sForL (mMk gSortP (mCons (mVar 0) mNil)) (gUn [(gSet 2), (gSet 3)]) (sSeq (sWhile 100000 (mTAnd (mTru (mHs 1)) (mTb (mGe (mV (m2H gIx (mV (m2H gIx (mHs 1) (mV (m1 gNeg (mC (.int 1)))))) (mV (mC (.int 1))))) (mHs 3)))) (sDrop (mPop 1)))
  (sIf (mTOr (mTNot (mTru (mHs 1))) (mTb (mLt (mV (m2H gIx (mV (m2H gIx (mHs 1) (mV (m1 gNeg (mC (.int 1)))))) (mV (mC (.int 0))))) (mHs 2)))) (sAppend 1 (mTup (mCons (mVar 2) (mCons (mVar 3) mNil)))) sNil)))
  (sRet (mVar 1))))
noncomputable def F__corners_among : Fn := mkFn 4 1 B__corners_among
noncomputable def B_Stairs____init__ : FS := (sSeq (sForT (mVar 1) (gSet 2) (sIf (mTNot (mTb (mCall F_is_pair (mCons (mVar 2) mNil)))) sBad sNil))
  (sFldD 0 "Stairs" "_corners" (mCall F__corners_among (mCons (mVar 1) mNil))))
noncomputable def F_Stairs____init__ : Fn := mkFn 3 2 B_Stairs____init__
noncomputable def B__law_made : FS := (sSeq (sIf (mTb (m2H gEq (mV (m1H gLen (mHs 0))) (mV (mC (.int 0))))) (sRet (mMakeS "Stairs" F_Stairs____init__ mNil)) sNil)
  (sSeq (sIf (mTb (m2H gEq (mV (m1H gLen (mHs 0))) (mV (mC (.int 1))))) (sRet (mMakeS "Stairs" F_Stairs____init__ (mCons (m2H gIx (mHs 0) (mV (mC (.int 0)))) mNil))) sNil)
  (sSeq (sIf (mTb (m2H gEq (mV (m1H gLen (mHs 0))) (mV (mC (.int 2))))) (sRet (mMakeS "Stairs" F_Stairs____init__ (mCons (m2H gIx (mHs 0) (mV (mC (.int 0)))) (mCons (m2H gIx (mHs 0) (mV (mC (.int 1)))) mNil)))) sNil)
  (sSeq (sIf (mTb (m2H gEq (mV (m1H gLen (mHs 0))) (mV (mC (.int 3))))) (sRet (mMakeS "Stairs" F_Stairs____init__ (mCons (m2H gIx (mHs 0) (mV (mC (.int 0)))) (mCons (m2H gIx (mHs 0) (mV (mC (.int 1)))) (mCons (m2H gIx (mHs 0) (mV (mC (.int 2)))) mNil))))) sNil)
  (sSeq (sIf (mTb (m2H gEq (mV (m1H gLen (mHs 0))) (mV (mC (.int 4))))) (sRet (mMakeS "Stairs" F_Stairs____init__ (mCons (m2H gIx (mHs 0) (mV (mC (.int 0)))) (mCons (m2H gIx (mHs 0) (mV (mC (.int 1)))) (mCons (m2H gIx (mHs 0) (mV (mC (.int 2)))) (mCons (m2H gIx (mHs 0) (mV (mC (.int 3)))) mNil)))))) sNil)
  (sRet (mMakeS "Stairs" F_Stairs____init__ (mCons (m2H gIx (mHs 0) (mV (mC (.int 0)))) (mCons (m2H gIx (mHs 0) (mV (mC (.int 1)))) (mCons (m2H gIx (mHs 0) (mV (mC (.int 2)))) (mCons (m2H gIx (mHs 0) (mV (mC (.int 3)))) (mCons (m2H gIx (mHs 0) (mV (mC (.int 4)))) mNil))))))))))))
noncomputable def F__law_made : Fn := mkFn 1 1 B__law_made
noncomputable def B__law_has : FS := (sRet (m2H gNe (mV (mCompL (mVar 0) (gSet 2) (mTAnd (mTb (mLe (mV (m2H gIx (mHs 1) (mV (mC (.int 0))))) (mV (m2H gIx (mHs 2) (mV (mC (.int 0))))))) (mTb (mGe (mV (m2H gIx (mHs 1) (mV (mC (.int 1))))) (mV (m2H gIx (mHs 2) (mV (mC (.int 1)))))))) (mVar 2) [2])) (mV (mLst mNil))))
noncomputable def F__law_has : Fn := mkFn 3 2 B__law_has
noncomputable def B__law_corners : FS := (sSeq (sOwn 1 (mMk gLstD mNil))
  (sSeq (sForL (mVar 0) (gSet 2) (sSeq (sOwn 3 (mCompL (mVar 0) (gSet 5) (mTAnd (mTb (m2H gNe (mHs 5) (mHs 2))) (mTb (mCall F__law_has (mCons (mLst (mCons (mVar 5) mNil)) (mCons (mVar 2) mNil))))) (mVar 5) [5]))
  (sIf (mTAnd (mTb (m2H (gInL true) (mHs 2) (mHs 1))) (mTb (m2H gEq (mHs 3) (mV (mLst mNil))))) (sSeq (sAsg (gSet 4) (m1H gLen (mV (mCompH 1 (gSet 5) (mTb (mLt (mV (m2H gIx (mHs 5) (mV (mC (.int 0))))) (mV (m2H gIx (mHs 2) (mV (mC (.int 0))))))) (mVar 5) [5]))))
  (sInsert 1 (mVar 4) (mVar 2))) sNil)))
  (sRet (mVar 1))))
noncomputable def F__law_corners : Fn := mkFn 6 1 B__law_corners
noncomputable def B_Stairs__corners : FS := (sRetO (mCompL (m1H (gFld "Stairs" "_corners") (mHs 0)) (gUn ([1, 2].map gSet)) mYes (mTup (mCons (mVar 1) (mCons (mVar 2) mNil))) [1, 2]))
noncomputable def F_Stairs__corners : Fn := mkFnO 3 1 B_Stairs__corners
noncomputable def B_Stairs____len__ : FS := (sRet (m1H gLen (mV (m1H (gFld "Stairs" "_corners") (mHs 0)))))
noncomputable def F_Stairs____len__ : Fn := mkFn 1 1 B_Stairs____len__
noncomputable def B_Stairs____bool__ : FS := (sRet (mMk gBoolL (mCons (m1H (gFld "Stairs" "_corners") (mHs 0)) mNil)))
noncomputable def F_Stairs____bool__ : Fn := mkFn 1 1 B_Stairs____bool__
noncomputable def B_Stairs____eq__ : FS := (sRet (mAnd (m1H (gIsiO "Stairs") (mHs 1)) (m2H gEq (mV (m1H (gFld "Stairs" "_corners") (mHs 0))) (mV (m1H (gFld "Stairs" "_corners") (mHs 1))))))
noncomputable def F_Stairs____eq__ : Fn := mkFn 2 2 B_Stairs____eq__
noncomputable def B_Stairs__text : FS := (sRet (m2 gJoin (mC (.str ", ")) (mCompL (m1H (gFld "Stairs" "_corners") (mHs 0)) (gUn ([1, 2].map gSet)) mYes (mJs [(m1 gFmt (mVar 1)), (mC (.str " ")), (m1 gFmt (mVar 2))] Str.empty) [1, 2])))
noncomputable def F_Stairs__text : Fn := mkFn 3 1 B_Stairs__text
noncomputable def B_Stairs____contains__ : FS := (sSeq (sIf (mTNot (mTb (mCall F_is_pair (mCons (mVar 1) mNil)))) (sRet (mC (.bl false))) sNil)
  (sSeq (sForL (m1H (gFld "Stairs" "_corners") (mHs 0)) (gUn [(gSet 2), (gSet 3)]) (sIf (mTb (mLe (mV (m2H gIx (mHs 1) (mV (mC (.int 0))))) (mHs 2))) (sRet (mGe (mV (m2H gIx (mHs 1) (mV (mC (.int 1))))) (mHs 3))) sNil))
  (sRet (mC (.bl false)))))
noncomputable def F_Stairs____contains__ : Fn := mkFn 4 2 B_Stairs____contains__
noncomputable def B__law_any : FS := (sSeq (sAsg (gSet 1) (mLst (mCons (mC .non) (mCons (mC (.bl true)) (mCons (mC (.int 0)) (mCons (mC (.int 5)) (mCons (mC (.str "")) (mCons (mC (.str "1 2")) (mCons (mTup mNil) (mCons (mTup (mCons (mC (.int 1)) mNil)) (mCons (mTup (mCons (mC (.int 1)) (mCons (mC (.int 2)) (mCons (mC (.int 3)) mNil)))) (mCons (mLst (mCons (mC (.int 1)) (mCons (mC (.int 2)) mNil))) (mCons (mDicN []) (mCons (mTup (mCons (mC (.bl true)) (mCons (mC (.int 2)) mNil))) (mCons (mTup (mCons (mC (.int 1)) (mCons (mC (.bl true)) mNil))) (mCons (mTup (mCons (mC (.bl false)) (mCons (mC (.int 5)) mNil))) (mCons (mTup (mCons (mC (.int 2)) (mCons (mC (.int 1)) mNil))) mNil)))))))))))))))))
  (sRet (mCallO F__law_one_of 0 (mCons (mAddA (mHs 1) (mV (mLst (mCons (mTup (mCons (m1 gNeg (mC (.int 1))) (mCons (mC (.int 3)) mNil))) (mCons (mTup (mCons (mC (.int 0)) (mCons (mAddA (mV (mPow (mC (.int 10)) (mC (.int 6)))) (mV (mC (.int 1)))) mNil))) (mCons (mTup (mCons (mC (.int 1)) (mCons (mC (.str "2")) mNil))) (mCons (mTup (mCons (mTup (mCons (mC (.int 1)) (mCons (mC (.int 2)) mNil))) mNil)) (mCons (mTup (mCons (mC .non) (mCons (mC (.int 3)) mNil))) (mCons (mTup (mCons (mLst (mCons (mC (.int 1)) mNil)) (mCons (mC (.int 2)) mNil))) (mCons (mDic1 1 2) mNil)))))))))) mNil))))
noncomputable def F__law_any : Fn := mkFn 2 1 B__law_any
noncomputable def B_Stairs____or__ : FS := (sSeq (sAsg (gSet 2) (mLst (mStar (m1H (gFld "Stairs" "_corners") (mHs 0)) (mStar (m1H (gFld "Stairs" "_corners") (mHs 1)) mNil))))
  (sRet (mMakeS "Stairs" F_Stairs____init__ (mStar (mVar 2) mNil))))
noncomputable def F_Stairs____or__ : Fn := mkFn 3 2 B_Stairs____or__
noncomputable def B__shared_pairs : FS := (sSeq (sOwn 2 (mMk gLstD mNil))
  (sSeq (sAsg (gSet 3) (mC (.int 0)))
  (sSeq (sAsg (gSet 4) (mC (.int 0)))
  (sSeq (sWhile 100000 (mTAnd (mTb (mLt (mHs 3) (mV (m1H gLen (mHs 0))))) (mTb (mLt (mHs 4) (mV (m1H gLen (mHs 1)))))) (sSeq (sAsg (gSet 5) (mMk gMin2 (mCons (m2H gIx (mV (m2H gIx (mHs 0) (mHs 3))) (mV (mC (.int 0)))) (mCons (m2H gIx (mV (m2H gIx (mHs 1) (mHs 4))) (mV (mC (.int 0)))) mNil))))
  (sSeq (sAppend 2 (mTup (mCons (mVar 5) (mCons (mMk gMax2 (mCons (m2H gIx (mV (m2H gIx (mHs 0) (mHs 3))) (mV (mC (.int 1)))) (mCons (m2H gIx (mV (m2H gIx (mHs 1) (mHs 4))) (mV (mC (.int 1)))) mNil))) mNil))))
  (sIf (mTb (m2H gEq (mV (m2H gIx (mV (m2H gIx (mHs 0) (mHs 3))) (mV (mC (.int 0))))) (mHs 5))) (sAug 3 (gAugAdd) (mC (.int 1))) (sAug 4 (gAugAdd) (mC (.int 1)))))))
  (sRet (mVar 2))))))
noncomputable def F__shared_pairs : Fn := mkFn 6 2 B__shared_pairs
noncomputable def B_Stairs____and__ : FS := (sSeq (sAsg (gSet 2) (mCall F__shared_pairs (mCons (m1H (gFld "Stairs" "_corners") (mHs 0)) (mCons (m1H (gFld "Stairs" "_corners") (mHs 1)) mNil))))
  (sRet (mMakeS "Stairs" F_Stairs____init__ (mStar (mVar 2) mNil))))
noncomputable def F_Stairs____and__ : Fn := mkFn 3 2 B_Stairs____and__
noncomputable def B__law_pairs_right : FS := (sSeq (sForR3 (mCons (mC (.int 0)) (mCons (mC (.int 14)) (mCons (mC (.int 2)) mNil))) (gSet 4) (sForR3 (mCons (mVar 4) (mCons (mC (.int 22)) (mCons (mC (.int 3)) mNil))) (gSet 5) (sSeq (sAsg (gSet 6) (mLst (mCons (mCall F__law_has (mCons (mVar 1) (mCons (mTup (mCons (mVar 4) (mCons (mVar 5) mNil))) mNil))) (mCons (mCall F__law_has (mCons (mVar 2) (mCons (mTup (mCons (mVar 4) (mCons (mVar 5) mNil))) mNil))) mNil))))
  (sIf (mTb (m2H gNe (mV (m2H (gInL false) (mV (mTup (mCons (mVar 4) (mCons (mVar 5) mNil)))) (mHs 0))) (mV (mGt (mV (m1 gCountT (mVar 6))) (mHs 3))))) (sRet (mC (.bl false))) sNil))))
  (sRet (mC (.bl true))))
noncomputable def F__law_pairs_right : Fn := mkFn 7 4 B__law_pairs_right
noncomputable def B__law_common : FS := (sSeq (sOwn 2 (mMk gLstD mNil))
  (sSeq (sForL (mVar 0) (gSet 3) (sForL (mVar 1) (gSet 4) (sSeq (sPar [5, 6] (mCons (m2H gIx (mHs 3) (mV (mC (.int 0)))) (mCons (m2H gIx (mHs 3) (mV (mC (.int 1)))) mNil)))
  (sSeq (sIf (mTb (mLt (mV (m2H gIx (mHs 4) (mV (mC (.int 0))))) (mHs 5))) (sAsg (gSet 5) (m2H gIx (mHs 4) (mV (mC (.int 0))))) sNil)
  (sSeq (sIf (mTb (mGt (mV (m2H gIx (mHs 4) (mV (mC (.int 1))))) (mHs 6))) (sAsg (gSet 6) (m2H gIx (mHs 4) (mV (mC (.int 1))))) sNil)
  (sAppend 2 (mTup (mCons (mVar 5) (mCons (mVar 6) mNil)))))))))
  (sRet (mVar 2))))
noncomputable def F__law_common : Fn := mkFn 7 2 B__law_common
noncomputable def B_Stairs__within : FS := (sRet (mCmpX "Stairs" F_Stairs____eq__ false (mOpO "Stairs" F_Stairs____and__ (mVar 0) (mVar 1)) (mVar 0)))
noncomputable def F_Stairs__within : Fn := mkFn 2 2 B_Stairs__within
end PL


set_option Elab.async false
set_option linter.all false
namespace FL
abbrev PP := Int × Int
def pushC (rev : List PP) (p : PP) : List PP := match rev.dropWhile (fun q => decide (p.2 ≤ q.2)) with
  | [] => [p]
  | q :: t => if q.1 < p.1 then p :: q :: t else q :: t
/-- v lies in a pair of the list -/
def Has (l : List PP) (v : PP) : Prop := ∃ q ∈ l, v.1 ≤ q.1 ∧ q.2 ≤ v.2
structure CInv (rev done : List PP) : Prop where
  pw : rev.Pairwise fun a b => b.1 < a.1 ∧ b.2 < a.2
  iff : ∀ v, Has rev v ↔ Has done v
  sub : ∀ q ∈ rev, q ∈ done
theorem cinv_nil : CInv [] [] := ⟨.nil, fun _ => Iff.rfl, fun _ h => h⟩
theorem mem_takeWhile {f : PP → Bool} : ∀ {l : List PP} {q : PP}, q ∈ l.takeWhile f → f q = true
  | x :: l, q, h => by
    rw [List.takeWhile_cons] at h
    split at h
    · rename_i hx
      rcases List.mem_cons.mp h with rfl | h
      · exact hx
      · exact mem_takeWhile h
    · cases h
theorem head_dropWhile {f : PP → Bool} : ∀ {l : List PP} {q : PP} {t : List PP}, l.dropWhile f = q :: t → f q = false
  | x :: l, q, t, h => by
    rw [List.dropWhile_cons] at h
    split at h
    · exact head_dropWhile h
    · rename_i hx
      cases h
      simpa using hx
theorem CInv.push {rev done : List PP} {p : PP} (I : CInv rev done) (hle : ∀ q ∈ done, q.1 < p.1 ∨ (q.1 = p.1 ∧ q.2 ≤ p.2)) : CInv (pushC rev p) (done ++ [p]) := by
  have split : rev.takeWhile (fun q => decide (p.2 ≤ q.2)) ++ rev.dropWhile (fun q => decide (p.2 ≤ q.2)) = rev := List.takeWhile_append_dropWhile
  have tk : ∀ q ∈ rev.takeWhile (fun q => decide (p.2 ≤ q.2)), p.2 ≤ q.2 ∧ q.1 ≤ p.1 := fun q hq => by
    have a := mem_takeWhile hq
    have b := hle q (I.sub q (by rw [← split]; exact List.mem_append_left _ hq))
    refine ⟨by simpa using a, by omega⟩
  have back : ∀ v, Has (done ++ [p]) v → Has rev v ∨ (v.1 ≤ p.1 ∧ p.2 ≤ v.2) := fun v ⟨q, hq, h⟩ => by
    rcases List.mem_append.mp hq with hq | hq
    · exact .inl ((I.iff v).mpr ⟨q, hq, h⟩)
    · simp at hq; subst hq; exact .inr h
  have old : ∀ v, Has rev v → (v.1 ≤ p.1 ∧ p.2 ≤ v.2) ∨ Has (rev.dropWhile (fun q => decide (p.2 ≤ q.2))) v := fun v ⟨q, hq, h1, h2⟩ => by
    rw [← split] at hq
    rcases List.mem_append.mp hq with hq | hq
    · have := tk q hq
      exact .inl ⟨by omega, by omega⟩
    · exact .inr ⟨q, hq, h1, h2⟩
  have dsub : ∀ q ∈ rev.dropWhile (fun q => decide (p.2 ≤ q.2)), q ∈ rev := fun q hq => by rw [← split]; exact List.mem_append_right _ hq
  have dpw : (rev.dropWhile (fun q => decide (p.2 ≤ q.2))).Pairwise fun a b => b.1 < a.1 ∧ b.2 < a.2 := by
    have z := I.pw
    rw [← split] at z
    exact (List.pairwise_append.mp z).2.1
  unfold pushC
  cases e : rev.dropWhile (fun q => decide (p.2 ≤ q.2)) with
  | nil =>
    refine ⟨List.pairwise_singleton _ _, fun v => ⟨fun ⟨q, hq, h⟩ => ⟨q, List.mem_append_right _ hq, h⟩, fun h => ?_⟩, fun q hq => List.mem_append_right _ hq⟩
    rcases back v h with h | h
    · rcases old v h with h | ⟨q, hq, _⟩
      · exact ⟨p, List.mem_singleton.mpr rfl, h⟩
      · rw [e] at hq; cases hq
    · exact ⟨p, List.mem_singleton.mpr rfl, h⟩
  | cons q0 t =>
    have hq0 : q0.2 < p.2 := by
      have := head_dropWhile e
      simpa using this
    rw [e] at dsub dpw old
    have m0 := I.sub q0 (dsub q0 List.mem_cons_self)
    have l0 := hle q0 m0
    have dt := (List.pairwise_cons.mp dpw).1
    by_cases hc : q0.1 < p.1
    · show CInv (if q0.1 < p.1 then p :: q0 :: t else q0 :: t) _
      rw [if_pos hc]
      refine ⟨List.pairwise_cons.mpr ⟨fun b hb => ?_, dpw⟩, fun v => ⟨fun ⟨q, hq, h⟩ => ?_, fun h => ?_⟩, fun q hq => ?_⟩
      · rcases List.mem_cons.mp hb with rfl | hb
        · exact ⟨hc, hq0⟩
        · have := dt b hb
          exact ⟨by omega, by omega⟩
      · rcases List.mem_cons.mp hq with rfl | hq
        · exact ⟨_, List.mem_append_right _ (List.mem_singleton.mpr rfl), h⟩
        · exact ⟨q, List.mem_append_left _ (I.sub q (dsub q hq)), h⟩
      · rcases back v h with h | h
        · rcases old v h with h | ⟨q, hq, h⟩
          · exact ⟨p, List.mem_cons_self, h⟩
          · exact ⟨q, List.mem_cons_of_mem _ hq, h⟩
        · exact ⟨p, List.mem_cons_self, h⟩
      · rcases List.mem_cons.mp hq with rfl | hq
        · exact List.mem_append_right _ (List.mem_singleton.mpr rfl)
        · exact List.mem_append_left _ (I.sub q (dsub q hq))
    · show CInv (if q0.1 < p.1 then p :: q0 :: t else q0 :: t) _
      rw [if_neg hc]
      have ph : ∀ v : PP, v.1 ≤ p.1 ∧ p.2 ≤ v.2 → Has (q0 :: t) v := fun v h => ⟨q0, List.mem_cons_self, by omega, by omega⟩
      refine ⟨dpw, fun v => ⟨fun ⟨q, hq, h⟩ => ⟨q, List.mem_append_left _ (I.sub q (dsub q hq)), h⟩, fun h => ?_⟩, fun q hq => List.mem_append_left _ (I.sub q (dsub q hq))⟩
      rcases back v h with h | h
      · rcases old v h with h | h
        · exact ph v h
        · exact h
      · exact ph v h
/-- the corners of the pairs, the last one ahead -/
def cornR (ps : List PP) : List PP := (sortP ps).foldl pushC []
theorem cinv_fold : ∀ (l : List PP) (rev done : List PP), CInv rev done → (done ++ l).Pairwise (fun a b => leP a b = true) → CInv (l.foldl pushC rev) (done ++ l)
  | [], rev, done, I, _ => by rw [List.append_nil]; exact I
  | p :: l, rev, done, I, h => by
    have e : done ++ p :: l = (done ++ [p]) ++ l := by simp
    rw [e] at h ⊢
    refine cinv_fold l (pushC rev p) (done ++ [p]) (I.push fun q hq => ?_) h
    have a := (List.pairwise_append.mp (List.pairwise_append.mp h).1).2.2 q hq p (List.mem_singleton.mpr rfl)
    exact leP_iff.mp a
theorem corn_inv (ps : List PP) : CInv (cornR ps) (sortP ps) := by
  have := cinv_fold (sortP ps) [] [] cinv_nil (by rw [List.nil_append]; exact sortP_sorted ps)
  rwa [List.nil_append] at this
theorem corn_has (ps : List PP) (v : PP) : Has (cornR ps) v ↔ Has ps v := by
  rw [(corn_inv ps).iff v]
  exact ⟨fun ⟨q, hq, h⟩ => ⟨q, (sortP_perm ps).mem_iff.mp hq, h⟩, fun ⟨q, hq, h⟩ => ⟨q, (sortP_perm ps).mem_iff.mpr hq, h⟩⟩
/-- what the search among the corners finds -/
def contF : List PP → PP → Bool
  | [], _ => false
  | q :: r, v => if v.1 ≤ q.1 then decide (q.2 ≤ v.2) else contF r v
theorem contF_iff : ∀ (l : List PP) (v : PP), l.Pairwise (fun a b => a.1 < b.1 ∧ a.2 < b.2) → (contF l v = true ↔ Has l v)
  | [], v, _ => ⟨fun h => (by cases h), fun ⟨_, h, _⟩ => (by cases h)⟩
  | q :: r, v, h => by
    obtain ⟨h1, h2⟩ := List.pairwise_cons.mp h
    unfold contF
    by_cases c : v.1 ≤ q.1
    · rw [if_pos c]
      refine ⟨fun z => ⟨q, List.mem_cons_self, c, by simpa using z⟩, fun ⟨y, hy, a, b⟩ => ?_⟩
      rcases List.mem_cons.mp hy with rfl | hy
      · simpa using b
      · have := (h1 y hy).2
        simp; omega
    · rw [if_neg c, contF_iff r v h2]
      refine ⟨fun ⟨y, hy, z⟩ => ⟨y, List.mem_cons_of_mem _ hy, z⟩, fun ⟨y, hy, a, b⟩ => ?_⟩
      rcases List.mem_cons.mp hy with rfl | hy
      · exact absurd a c
      · exact ⟨y, hy, a, b⟩
theorem corn_cont (ps : List PP) (v : PP) : contF (cornR ps).reverse v = true ↔ Has ps v := by
  refine (contF_iff _ _ (by
    rw [List.pairwise_reverse]
    exact (corn_inv ps).pw)).trans (Iff.trans ⟨fun ⟨q, hq, h⟩ => ⟨q, List.mem_reverse.mp hq, h⟩, fun ⟨q, hq, h⟩ => ⟨q, List.mem_reverse.mpr hq, h⟩⟩ (corn_has ps v))
theorem push_len (rev : List PP) (p : PP) : (pushC rev p).length ≤ rev.length + 1 := by
  have h : (rev.dropWhile (fun q => decide (p.2 ≤ q.2))).length ≤ rev.length := (List.dropWhile_sublist _).length_le
  unfold pushC
  split
  · simp
  · rename_i q t e
    rw [e] at h
    simp only [List.length_cons] at h
    split <;> simp <;> omega
end FL

namespace PL
open PySem PySem.Spec PyProof.Rows L2 FL
set_option maxRecDepth 100000
set_option maxHeartbeats 1000000
set_option linter.all false
theorem draws : Draws F__law_pick := by
  intro d m s ⟨h0, h1, h2⟩ h3 h4
  by_cases hd : s ≤ d
  · refine ⟨d % s, d / s, m, ?_, Int.emod_nonneg _ (by omega), Int.emod_lt_of_pos _ h3, Int.ediv_nonneg h0 (by omega), h1, h2⟩
    simp [F__law_pick, B__law_pick, Sack, getD1, getM1, putD1, putM1, hd, h3, h4, kne, kne', mC, mVar, mHs, mV, FL.m2, m2H, FL.m1, m1H, mNil, mCons, mMk, mTb, mTNot, mTAnd, mTOr, mTru, mAnd, mOr, mIf, mChain, sSeq, sNil, sIf, sRet, sDrop, sAsg, gSet, gSets, gUn, lentS_un, lentS_sh, lentS_owt, deref, gI, gB, gNeg, gNot, gTupD, gLstD, szOk, truD, cMod, cDiv, mkFn, mkFnO, endF, FL.cut, FL.cutS, mCall, mCallO, mCallK, sOwn, sRetO, sRetV, gIx, gDGet, keyD, getK, putKD, sDPutD, mDispN, mDicN, gAdd, gMul, gSl, mPn, mPs, mSl, cutA, HT.sIx, gMin2, gMax2, gList, gTuple, gLen, gIsi, isObjD, kindN, isiB, sForL, sForT, sForR, itemsD, rgOk, sPar, cond_true, cond_false, sizeLine_eq, sAppend, mPop]
  · have e1 : cMul m 40014 = true := cMul_ok 64 64 (b64 (by omega)) (b64 (by decide)) (by decide)
    generalize hm : (m * 40014 + 1013) % 2147483563 = x1
    have a1 : 0 ≤ x1 := by omega
    have a2 : x1 < 2147483563 := by omega
    have e2 : cPow x1 2 = true := cPow_ok 64 9 (b64 (by omega)) (by decide) (by decide) (by decide)
    generalize hq : x1 ^ 2 % 2147483399 = q1
    have b1 : 0 ≤ q1 := by omega
    have b2 : q1 < 2147483399 := by omega
    have e3 : cPow q1 3 = true := cPow_ok 64 9 (b64 (by omega)) (by decide) (by decide) (by decide)
    refine ⟨q1 ^ 3 % 998244353 / 5 % s, d, x1, ?_, Int.emod_nonneg _ (by omega), Int.emod_lt_of_pos _ h3, h0, a1, by omega⟩
    simp [F__law_pick, B__law_pick, Sack, getD1, getM1, putD1, putM1, hd, h3, h4, kne, kne', e1, hm, e2, hq, e3, mC, mVar, mHs, mV, FL.m2, m2H, FL.m1, m1H, mNil, mCons, mMk, mTb, mTNot, mTAnd, mTOr, mTru, mAnd, mOr, mIf, mChain, sSeq, sNil, sIf, sRet, sDrop, sAsg, gSet, gSets, gUn, lentS_un, lentS_sh, lentS_owt, deref, gI, gB, gNeg, gNot, gTupD, gLstD, szOk, truD, cMod, cDiv, mkFn, mkFnO, endF, FL.cut, FL.cutS, mCall, mCallO, mCallK, sOwn, sRetO, sRetV, gIx, gDGet, keyD, getK, putKD, sDPutD, mDispN, mDicN, gAdd, gMul, gSl, mPn, mPs, mSl, cutA, HT.sIx, gMin2, gMax2, gList, gTuple, gLen, gIsi, isObjD, kindN, isiB, sForL, sForT, sForR, itemsD, rgOk, sPar, cond_true, cond_false, sizeLine_eq, sAppend, mPop]
theorem chooses : Chooses F__law_one_of := by
  intro d m xs ok hx hl
  have hp : 0 < xs.length := List.length_pos_iff.mpr hx
  obtain ⟨r, d', m', q, r0, r1, ok'⟩ := draws d m xs.length ok (by omega) (by omega)
  obtain ⟨x, qx, mx⟩ := atI_of r0 r1
  refine ⟨x, d', m', ?_, mx, ok'⟩
  simp [F__law_one_of, B__law_one_of, q, qx, mC, mVar, mHs, mV, FL.m2, m2H, FL.m1, m1H, mNil, mCons, mMk, mTb, mTNot, mTAnd, mTOr, mTru, mAnd, mOr, mIf, mChain, sSeq, sNil, sIf, sRet, sDrop, sAsg, gSet, gSets, gUn, lentS_un, lentS_sh, lentS_owt, deref, gI, gB, gNeg, gNot, gTupD, gLstD, szOk, truD, cMod, cDiv, mkFn, mkFnO, endF, FL.cut, FL.cutS, mCall, mCallO, mCallK, sOwn, sRetO, sRetV, gIx, gDGet, keyD, getK, putKD, sDPutD, mDispN, mDicN, gAdd, gMul, gSl, mPn, mPs, mSl, cutA, HT.sIx, gMin2, gMax2, gList, gTuple, gLen, gIsi, isObjD, kindN, isiB, sForL, sForT, sForR, itemsD, rgOk, sPar, cond_true, cond_false, sizeLine_eq, sAppend, mPop]
theorem sq_bits7 {e m : Int} (he : Builtin.Int.intBits e ≤ 1048576) (h0 : 0 ≤ m) (h1 : m < 4503599627370496) : Builtin.Int.intBits (m + e * e + 7) ≤ 2097153 := by
  have a1 : e.natAbs < 2 ^ 1048576 := Nat.lt_of_lt_of_le (PyProof.Rows.natAbs_lt_pow_bits e) (Nat.pow_le_pow_right (by decide) he)
  revert a1
  generalize hk : (1048576 : Nat) = k at *
  intro a1
  have a2 : e.natAbs * e.natAbs < 2 ^ k * 2 ^ k := Nat.mul_lt_mul'' a1 a1
  rw [← Nat.pow_add] at a2
  have a3 : (4611686018427387904 : Nat) ≤ 2 ^ (k + k) := by
    have : (4611686018427387904 : Nat) = 2 ^ 62 := by decide
    rw [this]
    exact Nat.pow_le_pow_right (by decide) (by omega)
  have a4 : (e * e).natAbs = e.natAbs * e.natAbs := Int.natAbs_mul e e
  have ek : (2097153 : Nat) = k + k + 1 := by omega
  rw [ek]
  refine PyProof.Rows.intBits_le ?_
  rw [Nat.pow_succ]
  generalize 2 ^ (k + k) = B at a2 a3 ⊢
  omega
theorem makes : MakesSack F__law_tape := by
  intro ns st hb h0 h1
  have key : ∀ d ∈ ns.map D.int, ∀ e : En, (∃ m x y, e = [.sh (.scr ns), .sh (.int st), .sh (.int m), x, y] ∧ lentS x = false ∧ lentS y = false ∧ 0 ≤ m ∧ m < 4294967296) →
      ∃ e1 e2, gSet 3 d e = some e1 ∧ (sAsg (gSet 2) (mAddA (mV (mMod (mPow (mAddA (mV (mAddA (mV (mMulA (mHs 2) (mV (mC (.int 30011))))) (mV (mMulA (mHs 3) (mHs 3))))) (mV (mC (.int 7)))) (mC (.int 2))) (mC (.int 2147483563)))) (mV (mC (.int 2))))) e1 = some (.nx e2) ∧ (∃ m x y, e2 = [.sh (.scr ns), .sh (.int st), .sh (.int m), x, y] ∧ lentS x = false ∧ lentS y = false ∧ 0 ≤ m ∧ m < 4294967296) := by
    rintro d hd e ⟨m, x, y, rfl, hx, hy, m0, m1⟩
    obtain ⟨z, hz, rfl⟩ := List.mem_map.mp hd
    have bz := hb z hz
    have e1 : cMul m 30011 = true := cMul_ok 64 64 (b64 (by omega)) (b64 (by decide)) (by decide)
    have e2 : cMul z z = true := cMul_ok 1048576 1048576 bz bz (by decide)
    have e3 : cPow (m * 30011 + z * z + 7) 2 = true := cPow_ok 2097153 9 (sq_bits7 bz (by omega) (by omega)) (by decide) (by decide) (by decide)
    generalize hq : (m * 30011 + z * z + 7) ^ 2 % 2147483563 = w
    refine ⟨_, [.sh (.scr ns), .sh (.int st), .sh (.int (w + 2)), .sh (.int z), y], (by simp [hx, mC, mVar, mHs, mV, FL.m2, m2H, FL.m1, m1H, mNil, mCons, mMk, mTb, mTNot, mTAnd, mTOr, mTru, mAnd, mOr, mIf, mChain, sSeq, sNil, sIf, sRet, sDrop, sAsg, gSet, gSets, gUn, lentS_un, lentS_sh, lentS_owt, deref, gI, gB, gNeg, gNot, gTupD, gLstD, szOk, truD, cMod, cDiv, mkFn, mkFnO, endF, FL.cut, FL.cutS, mCall, mCallO, mCallK, sOwn, sRetO, sRetV, gIx, gDGet, keyD, getK, putKD, sDPutD, mDispN, mDicN, gAdd, gMul, gSl, mPn, mPs, mSl, cutA, HT.sIx, gMin2, gMax2, gList, gTuple, gLen, gIsi, isObjD, kindN, isiB, sForL, sForT, sForR, itemsD, rgOk, sPar, cond_true, cond_false, sizeLine_eq, sAppend, mPop]; rfl), ?_, _, _, _, rfl, rfl, hy, by omega, by omega⟩
    simp [e1, e2, e3, hq, hx, mC, mVar, mHs, mV, FL.m2, m2H, FL.m1, m1H, mNil, mCons, mMk, mTb, mTNot, mTAnd, mTOr, mTru, mAnd, mOr, mIf, mChain, sSeq, sNil, sIf, sRet, sDrop, sAsg, gSet, gSets, gUn, lentS_un, lentS_sh, lentS_owt, deref, gI, gB, gNeg, gNot, gTupD, gLstD, szOk, truD, cMod, cDiv, mkFn, mkFnO, endF, FL.cut, FL.cutS, mCall, mCallO, mCallK, sOwn, sRetO, sRetV, gIx, gDGet, keyD, getK, putKD, sDPutD, mDispN, mDicN, gAdd, gMul, gSl, mPn, mPs, mSl, cutA, HT.sIx, gMin2, gMax2, gList, gTuple, gLen, gIsi, isObjD, kindN, isiB, sForL, sForT, sForR, itemsD, rgOk, sPar, cond_true, cond_false, sizeLine_eq, sAppend, mPop]
  obtain ⟨e', q, m, x, y, rfl, hx, hy, m0, m1⟩ := loop_nx _ (ns.map .int) key [.sh (.scr ns), .sh (.int st), .sh (.int (97 + st * 31)), .un, .un] ⟨_, _, _, rfl, rfl, rfl, by omega, by omega⟩
  have e0 : cMul st 31 = true := cMul_ok 64 64 (b64 (by omega)) (b64 (by decide)) (by decide)
  have e10 : cPow 10 18 = true := cPow_ok 64 18 (b64 (by decide)) (by decide) (by decide) (by decide)
  by_cases hs : st < ns.length
  · obtain ⟨v, qv, _⟩ := atI_of h0 hs
    by_cases hv : 1000000000000000000 ≤ v
    · refine ⟨v - 1000000000000000000, m, [.un, .un], ?_, by omega, m0, m1⟩
      simp [F__law_tape, B__law_tape, Sack, q, e0, e10, hs, qv, hv, hx, hy, mC, mVar, mHs, mV, FL.m2, m2H, FL.m1, m1H, mNil, mCons, mMk, mTb, mTNot, mTAnd, mTOr, mTru, mAnd, mOr, mIf, mChain, sSeq, sNil, sIf, sRet, sDrop, sAsg, gSet, gSets, gUn, lentS_un, lentS_sh, lentS_owt, deref, gI, gB, gNeg, gNot, gTupD, gLstD, szOk, truD, cMod, cDiv, mkFn, mkFnO, endF, FL.cut, FL.cutS, mCall, mCallO, mCallK, sOwn, sRetO, sRetV, gIx, gDGet, keyD, getK, putKD, sDPutD, mDispN, mDicN, gAdd, gMul, gSl, mPn, mPs, mSl, cutA, HT.sIx, gMin2, gMax2, gList, gTuple, gLen, gIsi, isObjD, kindN, isiB, sForL, sForT, sForR, itemsD, rgOk, sPar, cond_true, cond_false, sizeLine_eq, sAppend, mPop]
    · refine ⟨0, m, [.un, .un], ?_, by omega, m0, m1⟩
      simp [F__law_tape, B__law_tape, Sack, q, e0, e10, hs, qv, hv, hx, hy, mC, mVar, mHs, mV, FL.m2, m2H, FL.m1, m1H, mNil, mCons, mMk, mTb, mTNot, mTAnd, mTOr, mTru, mAnd, mOr, mIf, mChain, sSeq, sNil, sIf, sRet, sDrop, sAsg, gSet, gSets, gUn, lentS_un, lentS_sh, lentS_owt, deref, gI, gB, gNeg, gNot, gTupD, gLstD, szOk, truD, cMod, cDiv, mkFn, mkFnO, endF, FL.cut, FL.cutS, mCall, mCallO, mCallK, sOwn, sRetO, sRetV, gIx, gDGet, keyD, getK, putKD, sDPutD, mDispN, mDicN, gAdd, gMul, gSl, mPn, mPs, mSl, cutA, HT.sIx, gMin2, gMax2, gList, gTuple, gLen, gIsi, isObjD, kindN, isiB, sForL, sForT, sForR, itemsD, rgOk, sPar, cond_true, cond_false, sizeLine_eq, sAppend, mPop]
  · refine ⟨0, m, [.un, .un], ?_, by omega, m0, m1⟩
    simp [F__law_tape, B__law_tape, Sack, q, e0, e10, hs, hx, hy, mC, mVar, mHs, mV, FL.m2, m2H, FL.m1, m1H, mNil, mCons, mMk, mTb, mTNot, mTAnd, mTOr, mTru, mAnd, mOr, mIf, mChain, sSeq, sNil, sIf, sRet, sDrop, sAsg, gSet, gSets, gUn, lentS_un, lentS_sh, lentS_owt, deref, gI, gB, gNeg, gNot, gTupD, gLstD, szOk, truD, cMod, cDiv, mkFn, mkFnO, endF, FL.cut, FL.cutS, mCall, mCallO, mCallK, sOwn, sRetO, sRetV, gIx, gDGet, keyD, getK, putKD, sDPutD, mDispN, mDicN, gAdd, gMul, gSl, mPn, mPs, mSl, cutA, HT.sIx, gMin2, gMax2, gList, gTuple, gLen, gIsi, isObjD, kindN, isiB, sForL, sForT, sForR, itemsD, rgOk, sPar, cond_true, cond_false, sizeLine_eq, sAppend, mPop]
end PL

namespace PL
open PySem PySem.Spec PyProof.Rows L2 FL
set_option maxRecDepth 100000
set_option maxHeartbeats 8000000
set_option linter.all false
theorem p6 : cPow 10 6 = true := cPow_ok 64 70 (b64 (by decide)) (by decide) (by decide) (by decide)
theorem r9 : cRep 9 1 = true := chk_yes ⟨by decide, by decide, by decide⟩
/-- a pair of days -/
def Pr (p : Int × Int) : Prop := 0 ≤ p.1 ∧ p.1 ≤ p.2 ∧ p.2 ≤ 1000000
theorem pair (d m : Int) (ok : SackOk d m) : ∃ p d' m', F__law_pair [.ow false (Sack d m)] = some (tupP p, [.ow false (Sack d' m')]) ∧ Pr p ∧ SackOk d' m' := by
  obtain ⟨r1, d1, m1, q1, a1, b1, ok⟩ := draws d m 13 ok (by decide) (by decide)
  obtain ⟨x2, d2, m2, q2, h2, ok⟩ := chooses d1 m1 [.int 1, .int 4, .int 9] ok (by simp) (by simp)
  obtain ⟨z2, rfl, a2, b2⟩ : ∃ z, x2 = .int z ∧ 0 < z ∧ z < 10 := by
    simp at h2
    rcases h2 with rfl | rfl | rfl <;> exact ⟨_, rfl, by omega, by omega⟩
  obtain ⟨r3, d3, m3, q3, a3, b3, ok⟩ := draws d2 m2 z2 ok a2 (by omega)
  obtain ⟨x4, d4, m4, q4, h4, ok⟩ := chooses d3 m3 [tupP (r1, r1 + r3), tupP (r1, r1 + r3), tupP (r1, r1 + r3), tupP (r1, r1 + r3), tupP (r1, r1 + r3), tupP (r1, r1 + r3), tupP (r1, r1 + r3), tupP (r1, r1 + r3), tupP (r1, r1 + r3), tupP (0, 1000000), tupP (0, 0), tupP (1000000, 1000000)] ok (by simp) (by simp)
  obtain ⟨p, rfl, hp⟩ : ∃ p, x4 = tupP p ∧ Pr p := by
    simp at h4
    rcases h4 with rfl | rfl | rfl | rfl <;> refine ⟨_, rfl, ?_⟩ <;> unfold Pr <;> simp <;> omega
  refine ⟨p, d4, m4, ?_, hp, ok⟩
  simp only [tupP] at q4
  simp [F__law_pair, B__law_pair, q1, q2, q3, q4, p6, r9, tupP, mC, mVar, mHs, mV, FL.m2, m2H, FL.m1, m1H, mNil, mCons, mMk, mTb, mTNot, mTAnd, mTOr, mTru, mAnd, mOr, mIf, mChain, sSeq, sNil, sIf, sRet, sDrop, sAsg, gSet, gSets, gUn, lentS_un, lentS_sh, lentS_owt, deref, gI, gB, gNeg, gNot, gTupD, gLstD, szOk, truD, cMod, cDiv, mkFn, mkFnO, endF, FL.cut, FL.cutS, mCall, mCallO, mCallK, sOwn, sRetO, sRetV, gIx, gDGet, keyD, getK, putKD, sDPutD, mDispN, mDicN, gAdd, gMul, gSl, mPn, mPs, mSl, cutA, HT.sIx, gMin2, gMax2, gList, gTuple, gLen, gIsi, isObjD, kindN, isiB, sForL, sForT, sForR, itemsD, rgOk, sPar, cond_true, cond_false, sizeLine_eq, sAppend, mPop]
end PL

namespace PL
open PySem PySem.Spec PyProof.Rows L2 FL
set_option maxRecDepth 100000
set_option maxHeartbeats 8000000
set_option linter.all false
theorem pairsC (n : Int) : ∀ (ds : List D) (d m : Int), SackOk d m → ∃ (ps : List (Int × Int)) (d' m' : Int), compF [2] (gSet 2) mYes (mCallO F__law_pair 0 mNil) ds [.ow false (Sack d m), .sh (.int n), .un] = some (ps.map tupP, [.ow false (Sack d' m'), .sh (.int n), .un]) ∧ ps.length = ds.length ∧ (∀ p ∈ ps, Pr p) ∧ SackOk d' m'
  | [], d, m, ok => ⟨[], d, m, rfl, rfl, (fun _ h => by cases h), ok⟩
  | x :: ds, d, m, ok => by
    obtain ⟨p, d1, m1, q1, hp, ok⟩ := pair d m ok
    obtain ⟨ps, d2, m2, q2, hl, hps, ok⟩ := pairsC n ds d1 m1 ok
    refine ⟨p :: ps, d2, m2, ?_, by simp [hl], fun y hy => ?_, ok⟩
    · simp [compF, freeE, isOw, wipeE, lend, backC, backCS, gSet, lentS_un, mYes, mCallO, mNil, q1, q2]
    · rcases List.mem_cons.mp hy with rfl | hy
      · exact hp
      · exact hps y hy
theorem rg (r : Int) (h0 : 0 ≤ r) (h1 : r < 1000) : rgOk r = true := by
  unfold rgOk
  simp only [Bool.and_eq_true, decide_eq_true_eq]
  omega
theorem law_pairs (d m : Int) (ok : SackOk d m) : ∃ (ps : List (Int × Int)) (d' m' : Int), F__law_pairs [.ow false (Sack d m), .sh (.int 5)] = some (.lst (ps.map tupP), [.ow false (Sack d' m'), .un]) ∧ ps.length ≤ 5 ∧ (∀ p ∈ ps, Pr p) ∧ SackOk d' m' := by
  obtain ⟨r, d1, m1, q1, a1, b1, ok⟩ := draws d m 6 ok (by decide) (by decide)
  obtain ⟨ps, d2, m2, q2, hl, hps, ok⟩ := pairsC 5 (upTo r.toNat) d1 m1 ok
  have hl5 : ps.length ≤ 5 := by
    rw [hl]; unfold FL.upTo; simp; omega
  have hr1 : -4611686018427387904 ≤ r := by omega
  have hr2 : r < 4611686018427387904 := by omega
  have hc : cLen ps.length = true := by unfold cLen; simp; omega
  refine ⟨ps, d2, m2, ?_, hl5, hps, ok⟩
  simp [F__law_pairs, B__law_pairs, mCompR, q1, q2, hr1, hr2, hc, mC, mVar, mHs, mV, FL.m2, m2H, FL.m1, m1H, mNil, mCons, mMk, mTb, mTNot, mTAnd, mTOr, mTru, mAnd, mOr, mIf, mChain, sSeq, sNil, sIf, sRet, sDrop, sAsg, gSet, gSets, gUn, lentS_un, lentS_sh, lentS_owt, deref, gI, gB, gNeg, gNot, gTupD, gLstD, szOk, truD, cMod, cDiv, mkFn, mkFnO, endF, FL.cut, FL.cutS, mCall, mCallO, mCallK, sOwn, sRetO, sRetV, gIx, gDGet, keyD, getK, putKD, sDPutD, mDispN, mDicN, gAdd, gMul, gSl, mPn, mPs, mSl, cutA, HT.sIx, gMin2, gMax2, gList, gTuple, gLen, gIsi, isObjD, kindN, isiB, sForL, sForT, sForR, itemsD, rgOk, sPar, cond_true, cond_false, sizeLine_eq, sAppend, mPop]
end PL

namespace PL
open PySem PySem.Spec PyProof.Rows L2 FL
set_option maxRecDepth 100000
set_option maxHeartbeats 8000000
set_option linter.all false
theorem at_last (ys : List D) (x : D) : atI (ys ++ [x]) (-1) = some x := by
  unfold atI ixN
  rw [if_neg (by decide), if_pos (by simp; omega)]
  have e : (-1 + ((ys ++ [x]).length : Int)).toNat = ys.length := by simp; omega
  show (ys ++ [x])[(-1 + ((ys ++ [x]).length : Int)).toNat]? = some x
  rw [e]
  simp
theorem get_last (ys : List D) (x : D) : (ys ++ [x])[ys.length]? = some x := by simp
noncomputable def tstC : M Bool := (mTAnd (mTru (mHs 1)) (mTb (mGe (mV (m2H gIx (mV (m2H gIx (mHs 1) (mV (m1 gNeg (mC (.int 1)))))) (mV (mC (.int 1))))) (mHs 3))))
def L (rev : List PP) : D := .lst (rev.reverse.map tupP)
theorem L_cons (q : PP) (t : List PP) : L (q :: t) = .lst (t.reverse.map tupP ++ [tupP q]) := by simp [L]
theorem tst_nil (a x2 : Sl) (k : Int) : tstC [a, .ow true (L []), x2, .sh (.int k)] = some (false, [a, .ow true (L []), x2, .sh (.int k)]) := by
  simp [tstC, L, mC, mVar, mHs, mV, FL.m2, m2H, FL.m1, m1H, mNil, mCons, mMk, mTb, mTNot, mTAnd, mTOr, mTru, mAnd, mOr, mIf, mChain, sSeq, sNil, sIf, sRet, sDrop, sAsg, gSet, gSets, gUn, lentS_un, lentS_sh, lentS_owt, deref, gI, gB, gNeg, gNot, gTupD, gLstD, szOk, truD, cMod, cDiv, mkFn, mkFnO, endF, FL.cut, FL.cutS, mCall, mCallO, mCallK, sOwn, sRetO, sRetV, gIx, gDGet, keyD, getK, putKD, sDPutD, mDispN, mDicN, gAdd, gMul, gSl, mPn, mPs, mSl, cutA, HT.sIx, gMin2, gMax2, gList, gTuple, gLen, gIsi, isObjD, kindN, isiB, sForL, sForT, sForR, itemsD, rgOk, sPar, cond_true, cond_false, sizeLine_eq, sAppend, mPop]
theorem tst_cons (a x2 : Sl) (k : Int) (q : PP) (t : List PP) : tstC [a, .ow true (L (q :: t)), x2, .sh (.int k)] = some (decide (k ≤ q.2), [a, .ow true (L (q :: t)), x2, .sh (.int k)]) := by
  rw [L_cons]
  have e1 : atI (t.reverse.map tupP ++ [tupP q]) (-1) = some (.tup [.int q.1, .int q.2]) := at_last (t.reverse.map tupP) (tupP q)
  have e2 : atI [D.int q.1, D.int q.2] 1 = some (D.int q.2) := rfl
  have hne : (t.reverse.map tupP ++ [tupP q]).isEmpty = false := by simp
  generalize t.reverse.map tupP ++ [tupP q] = G at e1 hne ⊢
  simp [tstC, e1, e2, hne, mC, mVar, mHs, mV, FL.m2, m2H, FL.m1, m1H, mNil, mCons, mMk, mTb, mTNot, mTAnd, mTOr, mTru, mAnd, mOr, mIf, mChain, sSeq, sNil, sIf, sRet, sDrop, sAsg, gSet, gSets, gUn, lentS_un, lentS_sh, lentS_owt, deref, gI, gB, gNeg, gNot, gTupD, gLstD, szOk, truD, cMod, cDiv, mkFn, mkFnO, endF, FL.cut, FL.cutS, mCall, mCallO, mCallK, sOwn, sRetO, sRetV, gIx, gDGet, keyD, getK, putKD, sDPutD, mDispN, mDicN, gAdd, gMul, gSl, mPn, mPs, mSl, cutA, HT.sIx, gMin2, gMax2, gList, gTuple, gLen, gIsi, isObjD, kindN, isiB, sForL, sForT, sForR, itemsD, rgOk, sPar, cond_true, cond_false, sizeLine_eq, sAppend, mPop]
theorem whC (a x2 : Sl) (k : Int) : ∀ (rev : List PP) (n : Nat), rev.length < n → whileF tstC (sDrop (mPop 1)) n [a, .ow true (L rev), x2, .sh (.int k)] = some (.nx [a, .ow true (L (rev.dropWhile fun q => decide (k ≤ q.2))), x2, .sh (.int k)])
  | [], n + 1, _ => by
    unfold whileF
    rw [tst_nil]
    rfl
  | q :: t, n + 1, h => by
    have ih := whC a x2 k t n (by simpa using h)
    unfold whileF
    rw [tst_cons]
    by_cases c : k ≤ q.2
    · have e1 : decide (k ≤ q.2) = true := decide_eq_true c
      have e2 : sDrop (mPop 1) [a, .ow true (L (q :: t)), x2, .sh (.int k)] = some (.nx [a, .ow true (L t), x2, .sh (.int k)]) := by
        rw [L_cons]
        simp [sDrop, mPop, L]
      rw [List.dropWhile_cons, e1]
      show (match sDrop (mPop 1) [a, .ow true (L (q :: t)), x2, .sh (.int k)] with
        | some (.nx e2) => whileF tstC (sDrop (mPop 1)) n e2
        | some (.ct e2) => whileF tstC (sDrop (mPop 1)) n e2
        | some (.bk e2) => some (.nx e2)
        | some (.rt d e2) => some (.rt d e2)
        | some (.ro d e2) => some (.ro d e2)
        | none => none) = _
      rw [e2]
      exact ih
    · have e1 : decide (k ≤ q.2) = false := decide_eq_false c
      rw [List.dropWhile_cons, e1]
      rfl
noncomputable def bodyC : FS := (sSeq (sWhile 100000 tstC (sDrop (mPop 1)))
  (sIf (mTOr (mTNot (mTru (mHs 1))) (mTb (mLt (mV (m2H gIx (mV (m2H gIx (mHs 1) (mV (m1 gNeg (mC (.int 1)))))) (mV (mC (.int 0))))) (mHs 2)))) (sAppend 1 (mTup (mCons (mVar 2) (mCons (mVar 3) mNil)))) sNil))
theorem turnC (a : Sl) (p : PP) (rev : List PP) (h : rev.length < 1000) : bodyC [a, .ow true (L rev), .sh (.int p.1), .sh (.int p.2)] = some (.nx [a, .ow true (L (pushC rev p)), .sh (.int p.1), .sh (.int p.2)]) := by
  have w := whC a (.sh (.int p.1)) p.2 rev 100000 (by omega)
  have hl : (rev.dropWhile (fun q => decide (p.2 ≤ q.2))).length ≤ rev.length := (List.dropWhile_sublist _).length_le
  unfold pushC
  cases e : rev.dropWhile (fun q => decide (p.2 ≤ q.2)) with
  | nil =>
    rw [e] at w
    have eL : L [] = .lst [] := rfl
    have eP : L [p] = .lst [.tup [.int p.1, .int p.2]] := rfl
    rw [eL] at w
    show _ = some (Out.nx [a, .ow true (L [p]), .sh (.int p.1), .sh (.int p.2)])
    rw [eP]
    generalize L rev = R at w ⊢
    simp [bodyC, sWhile, w, sAppend, mC, mVar, mHs, mV, FL.m2, m2H, FL.m1, m1H, mNil, mCons, mMk, mTb, mTNot, mTAnd, mTOr, mTru, mAnd, mOr, mIf, mChain, sSeq, sNil, sIf, sRet, sDrop, sAsg, gSet, gSets, gUn, lentS_un, lentS_sh, lentS_owt, deref, gI, gB, gNeg, gNot, gTupD, gLstD, szOk, truD, cMod, cDiv, mkFn, mkFnO, endF, FL.cut, FL.cutS, mCall, mCallO, mCallK, sOwn, sRetO, sRetV, gIx, gDGet, keyD, getK, putKD, sDPutD, mDispN, mDicN, gAdd, gMul, gSl, mPn, mPs, mSl, cutA, HT.sIx, gMin2, gMax2, gList, gTuple, gLen, gIsi, isObjD, kindN, isiB, sForL, sForT, sForR, itemsD, rgOk, sPar, cond_true, cond_false, sizeLine_eq, sAppend, mPop]
  | cons q t =>
    rw [e] at w
    have e1 : atI (t.reverse.map tupP ++ [tupP q]) (-1) = some (.tup [.int q.1, .int q.2]) := at_last (t.reverse.map tupP) (tupP q)
    have e2 : atI [D.int q.1, D.int q.2] 0 = some (D.int q.1) := rfl
    have hz : (t.reverse.map tupP ++ [tupP q]).length < 1000000 := by
      rw [e] at hl; simp at hl ⊢; omega
    have hne : (t.reverse.map tupP ++ [tupP q]).isEmpty = false := by simp
    by_cases c : q.1 < p.1
    · have el : L (p :: q :: t) = .lst ((t.reverse.map tupP ++ [tupP q]) ++ [.tup [.int p.1, .int p.2]]) := by simp [L, tupP]
      show _ = some (Out.nx [a, .ow true (L (if q.1 < p.1 then p :: q :: t else q :: t)), .sh (.int p.1), .sh (.int p.2)])
      rw [if_pos c, el]
      rw [L_cons] at w
      generalize L rev = R at w ⊢
      generalize t.reverse.map tupP ++ [tupP q] = G at w e1 hz hne ⊢
      simp [bodyC, sWhile, w, sAppend, e1, e2, c, hne, hz, mC, mVar, mHs, mV, FL.m2, m2H, FL.m1, m1H, mNil, mCons, mMk, mTb, mTNot, mTAnd, mTOr, mTru, mAnd, mOr, mIf, mChain, sSeq, sNil, sIf, sRet, sDrop, sAsg, gSet, gSets, gUn, lentS_un, lentS_sh, lentS_owt, deref, gI, gB, gNeg, gNot, gTupD, gLstD, szOk, truD, cMod, cDiv, mkFn, mkFnO, endF, FL.cut, FL.cutS, mCall, mCallO, mCallK, sOwn, sRetO, sRetV, gIx, gDGet, keyD, getK, putKD, sDPutD, mDispN, mDicN, gAdd, gMul, gSl, mPn, mPs, mSl, cutA, HT.sIx, gMin2, gMax2, gList, gTuple, gLen, gIsi, isObjD, kindN, isiB, sForL, sForT, sForR, itemsD, rgOk, sPar, cond_true, cond_false, sizeLine_eq, sAppend, mPop]
    · show _ = some (Out.nx [a, .ow true (L (if q.1 < p.1 then p :: q :: t else q :: t)), .sh (.int p.1), .sh (.int p.2)])
      rw [if_neg c, L_cons]
      rw [L_cons] at w
      generalize L rev = R at w ⊢
      generalize t.reverse.map tupP ++ [tupP q] = G at w e1 hz hne ⊢
      simp [bodyC, sWhile, w, sAppend, e1, e2, c, hne, hz, mC, mVar, mHs, mV, FL.m2, m2H, FL.m1, m1H, mNil, mCons, mMk, mTb, mTNot, mTAnd, mTOr, mTru, mAnd, mOr, mIf, mChain, sSeq, sNil, sIf, sRet, sDrop, sAsg, gSet, gSets, gUn, lentS_un, lentS_sh, lentS_owt, deref, gI, gB, gNeg, gNot, gTupD, gLstD, szOk, truD, cMod, cDiv, mkFn, mkFnO, endF, FL.cut, FL.cutS, mCall, mCallO, mCallK, sOwn, sRetO, sRetV, gIx, gDGet, keyD, getK, putKD, sDPutD, mDispN, mDicN, gAdd, gMul, gSl, mPn, mPs, mSl, cutA, HT.sIx, gMin2, gMax2, gList, gTuple, gLen, gIsi, isObjD, kindN, isiB, sForL, sForT, sForR, itemsD, rgOk, sPar, cond_true, cond_false, sizeLine_eq, sAppend, mPop]
end PL

namespace PL
open PySem PySem.Spec PyProof.Rows L2 FL
set_option maxRecDepth 100000
set_option maxHeartbeats 8000000
set_option linter.all false
def bt (d : D) (a b : Int) : Bool := match d with
  | .int i => decide (a ≤ i) && decide (i ≤ b)
  | _ => false
theorem bt_int {d : D} {a b : Int} (h : bt d a b = true) : ∃ i, d = .int i ∧ a ≤ i ∧ i ≤ b := by
  unfold bt at h
  split at h
  · simp at h; exact ⟨_, rfl, h.1, h.2⟩
  · cases h
def pl (d : D) : Prop := match d with
  | .obj _ _ => False
  | .scr _ => False
  | .kls _ => False
  | _ => True
def pl2 (d : D) : Prop := match d with
  | .obj _ _ => False
  | .scr _ => False
  | .kls _ => False
  | .tup xs => ∀ x ∈ xs, pl x
  | _ => True
theorem f_is_whole (d : D) (h : pl d) : F_is_whole [.sh d] = some (.bl (match d with | .int _ => true | _ => false), [.un]) := by
  cases d with
  | obj _ _ => exact h.elim
  | scr _ => exact h.elim
  | kls _ => exact h.elim
  | _ => simp [F_is_whole, B_is_whole, mC, mVar, mHs, mV, FL.m2, m2H, FL.m1, m1H, mNil, mCons, mMk, mTb, mTNot, mTAnd, mTOr, mTru, mAnd, mOr, mIf, mChain, sSeq, sNil, sIf, sRet, sDrop, sAsg, gSet, gSets, gUn, lentS_un, lentS_sh, lentS_owt, deref, gI, gB, gNeg, gNot, gTupD, gLstD, szOk, truD, cMod, cDiv, mkFn, mkFnO, endF, FL.cut, FL.cutS, mCall, mCallO, mCallK, sOwn, sRetO, sRetV, gIx, gDGet, keyD, getK, putKD, sDPutD, mDispN, mDicN, gAdd, gMul, gSl, mPn, mPs, mSl, cutA, HT.sIx, gMin2, gMax2, gList, gTuple, gLen, gIsi, isObjD, kindN, isiB, sForL, sForT, sForR, itemsD, rgOk, sPar, cond_true, cond_false, sizeLine_eq, sAppend, mPop]
theorem f_is_day (d : D) (h : pl d) : F_is_day [.sh d] = some (.bl (bt d 0 1000000), [.un]) := by
  cases d with
  | obj _ _ => exact h.elim
  | scr _ => exact h.elim
  | kls _ => exact h.elim
  | int i => by_cases h1 : 0 ≤ i <;> by_cases h2 : i ≤ 1000000 <;> simp [F_is_day, B_is_day, f_is_whole, h, bt, h1, h2, mC, mVar, mHs, mV, FL.m2, m2H, FL.m1, m1H, mNil, mCons, mMk, mTb, mTNot, mTAnd, mTOr, mTru, mAnd, mOr, mIf, mChain, sSeq, sNil, sIf, sRet, sDrop, sAsg, gSet, gSets, gUn, lentS_un, lentS_sh, lentS_owt, deref, gI, gB, gNeg, gNot, gTupD, gLstD, szOk, truD, cMod, cDiv, mkFn, mkFnO, endF, FL.cut, FL.cutS, mCall, mCallO, mCallK, sOwn, sRetO, sRetV, gIx, gDGet, keyD, getK, putKD, sDPutD, mDispN, mDicN, gAdd, gMul, gSl, mPn, mPs, mSl, cutA, HT.sIx, gMin2, gMax2, gList, gTuple, gLen, gIsi, isObjD, kindN, isiB, sForL, sForT, sForR, itemsD, rgOk, sPar, cond_true, cond_false, sizeLine_eq, sAppend, mPop]
  | _ => simp [F_is_day, B_is_day, f_is_whole, h, bt, mC, mVar, mHs, mV, FL.m2, m2H, FL.m1, m1H, mNil, mCons, mMk, mTb, mTNot, mTAnd, mTOr, mTru, mAnd, mOr, mIf, mChain, sSeq, sNil, sIf, sRet, sDrop, sAsg, gSet, gSets, gUn, lentS_un, lentS_sh, lentS_owt, deref, gI, gB, gNeg, gNot, gTupD, gLstD, szOk, truD, cMod, cDiv, mkFn, mkFnO, endF, FL.cut, FL.cutS, mCall, mCallO, mCallK, sOwn, sRetO, sRetV, gIx, gDGet, keyD, getK, putKD, sDPutD, mDispN, mDicN, gAdd, gMul, gSl, mPn, mPs, mSl, cutA, HT.sIx, gMin2, gMax2, gList, gTuple, gLen, gIsi, isObjD, kindN, isiB, sForL, sForT, sForR, itemsD, rgOk, sPar, cond_true, cond_false, sizeLine_eq, sAppend, mPop]
def leI (x y : D) : Bool := match x, y with
  | .int i, .int j => decide (i ≤ j)
  | _, _ => false
def pr (d : D) : Bool := match d with
  | .tup [x, y] => bt x 0 1000000 && bt y 0 1000000 && leI x y
  | _ => false
theorem f_is_pair (d : D) (h : pl2 d) : F_is_pair [.sh d] = some (.bl (pr d), [.un]) := by
  cases d with
  | obj _ _ => exact h.elim
  | scr _ => exact h.elim
  | kls _ => exact h.elim
  | tup xs =>
    match xs, h with
    | [], _ => simp [F_is_pair, B_is_pair, pr, eqI, mC, mVar, mHs, mV, FL.m2, m2H, FL.m1, m1H, mNil, mCons, mMk, mTb, mTNot, mTAnd, mTOr, mTru, mAnd, mOr, mIf, mChain, sSeq, sNil, sIf, sRet, sDrop, sAsg, gSet, gSets, gUn, lentS_un, lentS_sh, lentS_owt, deref, gI, gB, gNeg, gNot, gTupD, gLstD, szOk, truD, cMod, cDiv, mkFn, mkFnO, endF, FL.cut, FL.cutS, mCall, mCallO, mCallK, sOwn, sRetO, sRetV, gIx, gDGet, keyD, getK, putKD, sDPutD, mDispN, mDicN, gAdd, gMul, gSl, mPn, mPs, mSl, cutA, HT.sIx, gMin2, gMax2, gList, gTuple, gLen, gIsi, isObjD, kindN, isiB, sForL, sForT, sForR, itemsD, rgOk, sPar, cond_true, cond_false, sizeLine_eq, sAppend, mPop]
    | [x], _ => simp [F_is_pair, B_is_pair, pr, eqI, mC, mVar, mHs, mV, FL.m2, m2H, FL.m1, m1H, mNil, mCons, mMk, mTb, mTNot, mTAnd, mTOr, mTru, mAnd, mOr, mIf, mChain, sSeq, sNil, sIf, sRet, sDrop, sAsg, gSet, gSets, gUn, lentS_un, lentS_sh, lentS_owt, deref, gI, gB, gNeg, gNot, gTupD, gLstD, szOk, truD, cMod, cDiv, mkFn, mkFnO, endF, FL.cut, FL.cutS, mCall, mCallO, mCallK, sOwn, sRetO, sRetV, gIx, gDGet, keyD, getK, putKD, sDPutD, mDispN, mDicN, gAdd, gMul, gSl, mPn, mPs, mSl, cutA, HT.sIx, gMin2, gMax2, gList, gTuple, gLen, gIsi, isObjD, kindN, isiB, sForL, sForT, sForR, itemsD, rgOk, sPar, cond_true, cond_false, sizeLine_eq, sAppend, mPop]
    | [x, y], h =>
      have hx : pl x := h x List.mem_cons_self
      have hy : pl y := h y (List.mem_cons_of_mem _ List.mem_cons_self)
      cases q1 : bt x 0 1000000 with
      | false => simp [F_is_pair, B_is_pair, pr, eqI, f_is_day, hx, hy, q1, mC, mVar, mHs, mV, FL.m2, m2H, FL.m1, m1H, mNil, mCons, mMk, mTb, mTNot, mTAnd, mTOr, mTru, mAnd, mOr, mIf, mChain, sSeq, sNil, sIf, sRet, sDrop, sAsg, gSet, gSets, gUn, lentS_un, lentS_sh, lentS_owt, deref, gI, gB, gNeg, gNot, gTupD, gLstD, szOk, truD, cMod, cDiv, mkFn, mkFnO, endF, FL.cut, FL.cutS, mCall, mCallO, mCallK, sOwn, sRetO, sRetV, gIx, gDGet, keyD, getK, putKD, sDPutD, mDispN, mDicN, gAdd, gMul, gSl, mPn, mPs, mSl, cutA, HT.sIx, gMin2, gMax2, gList, gTuple, gLen, gIsi, isObjD, kindN, isiB, sForL, sForT, sForR, itemsD, rgOk, sPar, cond_true, cond_false, sizeLine_eq, sAppend, mPop]
      | true =>
        cases q2 : bt y 0 1000000 with
        | false => simp [F_is_pair, B_is_pair, pr, eqI, f_is_day, hx, hy, q1, q2, mC, mVar, mHs, mV, FL.m2, m2H, FL.m1, m1H, mNil, mCons, mMk, mTb, mTNot, mTAnd, mTOr, mTru, mAnd, mOr, mIf, mChain, sSeq, sNil, sIf, sRet, sDrop, sAsg, gSet, gSets, gUn, lentS_un, lentS_sh, lentS_owt, deref, gI, gB, gNeg, gNot, gTupD, gLstD, szOk, truD, cMod, cDiv, mkFn, mkFnO, endF, FL.cut, FL.cutS, mCall, mCallO, mCallK, sOwn, sRetO, sRetV, gIx, gDGet, keyD, getK, putKD, sDPutD, mDispN, mDicN, gAdd, gMul, gSl, mPn, mPs, mSl, cutA, HT.sIx, gMin2, gMax2, gList, gTuple, gLen, gIsi, isObjD, kindN, isiB, sForL, sForT, sForR, itemsD, rgOk, sPar, cond_true, cond_false, sizeLine_eq, sAppend, mPop]
        | true =>
          obtain ⟨i, rfl, _⟩ := bt_int q1
          obtain ⟨j, rfl, _⟩ := bt_int q2
          simp [F_is_pair, B_is_pair, pr, eqI, f_is_day, hx, hy, q1, q2, leI, mC, mVar, mHs, mV, FL.m2, m2H, FL.m1, m1H, mNil, mCons, mMk, mTb, mTNot, mTAnd, mTOr, mTru, mAnd, mOr, mIf, mChain, sSeq, sNil, sIf, sRet, sDrop, sAsg, gSet, gSets, gUn, lentS_un, lentS_sh, lentS_owt, deref, gI, gB, gNeg, gNot, gTupD, gLstD, szOk, truD, cMod, cDiv, mkFn, mkFnO, endF, FL.cut, FL.cutS, mCall, mCallO, mCallK, sOwn, sRetO, sRetV, gIx, gDGet, keyD, getK, putKD, sDPutD, mDispN, mDicN, gAdd, gMul, gSl, mPn, mPs, mSl, cutA, HT.sIx, gMin2, gMax2, gList, gTuple, gLen, gIsi, isObjD, kindN, isiB, sForL, sForT, sForR, itemsD, rgOk, sPar, cond_true, cond_false, sizeLine_eq, sAppend, mPop]
    | x :: y :: z :: r, h =>
      have e : ¬ ((r.length : Int) + 1 + 1 + 1 = 2) := by omega
      simp [F_is_pair, B_is_pair, pr, eqI, e, mC, mVar, mHs, mV, FL.m2, m2H, FL.m1, m1H, mNil, mCons, mMk, mTb, mTNot, mTAnd, mTOr, mTru, mAnd, mOr, mIf, mChain, sSeq, sNil, sIf, sRet, sDrop, sAsg, gSet, gSets, gUn, lentS_un, lentS_sh, lentS_owt, deref, gI, gB, gNeg, gNot, gTupD, gLstD, szOk, truD, cMod, cDiv, mkFn, mkFnO, endF, FL.cut, FL.cutS, mCall, mCallO, mCallK, sOwn, sRetO, sRetV, gIx, gDGet, keyD, getK, putKD, sDPutD, mDispN, mDicN, gAdd, gMul, gSl, mPn, mPs, mSl, cutA, HT.sIx, gMin2, gMax2, gList, gTuple, gLen, gIsi, isObjD, kindN, isiB, sForL, sForT, sForR, itemsD, rgOk, sPar, cond_true, cond_false, sizeLine_eq, sAppend, mPop]
  | _ => simp [F_is_pair, B_is_pair, pr, mC, mVar, mHs, mV, FL.m2, m2H, FL.m1, m1H, mNil, mCons, mMk, mTb, mTNot, mTAnd, mTOr, mTru, mAnd, mOr, mIf, mChain, sSeq, sNil, sIf, sRet, sDrop, sAsg, gSet, gSets, gUn, lentS_un, lentS_sh, lentS_owt, deref, gI, gB, gNeg, gNot, gTupD, gLstD, szOk, truD, cMod, cDiv, mkFn, mkFnO, endF, FL.cut, FL.cutS, mCall, mCallO, mCallK, sOwn, sRetO, sRetV, gIx, gDGet, keyD, getK, putKD, sDPutD, mDispN, mDicN, gAdd, gMul, gSl, mPn, mPs, mSl, cutA, HT.sIx, gMin2, gMax2, gList, gTuple, gLen, gIsi, isObjD, kindN, isiB, sForL, sForT, sForR, itemsD, rgOk, sPar, cond_true, cond_false, sizeLine_eq, sAppend, mPop]
theorem pl_tup (p : PP) : pl2 (tupP p) := fun x hx => by
  simp at hx
  rcases hx with rfl | rfl <;> trivial
theorem pr_tup {p : PP} (h : Pr p) : pr (tupP p) = true := by
  obtain ⟨a, b, c⟩ := h
  simp [pr, tupP, bt, leI]
  omega
theorem is_pair_tup {p : PP} (h : Pr p) : F_is_pair [.sh (tupP p)] = some (.bl true, [.un]) := by
  rw [f_is_pair _ (pl_tup p), pr_tup h]
/-! ### the corners -/
theorem pairs_of : ∀ ps : List PP, pairsD (ps.map tupP) = some ps
  | [] => rfl
  | p :: ps => by
    show pairsD (tupP p :: ps.map tupP) = _
    unfold pairsD
    rw [show pairD (tupP p) = some p from rfl, pairs_of ps]
theorem loopC (a : Sl) : ∀ (l rev : List PP) (x2 x3 : Sl), lentS x2 = false → lentS x3 = false → rev.length + l.length < 900 → ∃ y2 y3, loopF (gUn [gSet 2, gSet 3]) bodyC (l.map tupP) [a, .ow true (L rev), x2, x3] = some (.nx [a, .ow true (L (l.foldl pushC rev)), y2, y3])
  | [], rev, x2, x3, _, _, _ => ⟨x2, x3, rfl⟩
  | p :: l, rev, x2, x3, h2, h3, hl => by
    simp only [List.length_cons] at hl
    have z := push_len rev p
    obtain ⟨y2, y3, ih⟩ := loopC a l (pushC rev p) (.sh (.int p.1)) (.sh (.int p.2)) rfl rfl (by omega)
    refine ⟨y2, y3, ?_⟩
    have e1 : gUn [gSet 2, gSet 3] (tupP p) [a, .ow true (L rev), x2, x3] = some [a, .ow true (L rev), .sh (.int p.1), .sh (.int p.2)] := by simp [gUn, gSets, gSet, tupP, h2, h3]
    have e2 := turnC a p rev (by omega)
    rw [List.map_cons]
    unfold loopF
    rw [e1]
    show (match bodyC [a, .ow true (L rev), .sh (.int p.1), .sh (.int p.2)] with
      | some (.nx e2) => loopF (gUn [gSet 2, gSet 3]) bodyC (l.map tupP) e2
      | some (.ct e2) => loopF (gUn [gSet 2, gSet 3]) bodyC (l.map tupP) e2
      | some (.bk e2) => some (.nx e2)
      | some (.rt d e2) => some (.rt d e2)
      | some (.ro d e2) => some (.ro d e2)
      | none => none) = _
    rw [e2]
    exact ih
theorem corners (ps : List PP) (h : ps.length < 900) : F__corners_among [.sh (.tup (ps.map tupP))] = some (L (cornR ps), [.un]) := by
  have eb : B__corners_among = (sSeq (sOwn 1 (mMk gLstD mNil)) (sSeq (sForL (mMk gSortP (mCons (mVar 0) mNil)) (gUn [(gSet 2), (gSet 3)]) bodyC) (sRet (mVar 1)))) := rfl
  obtain ⟨y2, y3, q⟩ := loopC (.sh (.tup (ps.map tupP))) (sortP ps) [] .un .un rfl rfl (by rw [(sortP_perm ps).length_eq]; simpa using h)
  have e := pairs_of ps
  have q' : loopF (gUn [gSet 2, gSet 3]) bodyC ((sortP ps).map tupP) [.sh (.tup (ps.map tupP)), .ow true (.lst []), .un, .un] = some (.nx [.sh (.tup (ps.map tupP)), .ow true (L (cornR ps)), y2, y3]) := q
  generalize ps.map tupP = G at e q' ⊢
  unfold F__corners_among
  rw [eb]
  generalize L (cornR ps) = R at q' ⊢
  generalize hS : (sortP ps).map tupP = S at q'
  have eg : gSortP [.tup G] = some (.lst S) := by simp only [gSortP, e, hS]
  simp [eg, q', mC, mVar, mHs, mV, FL.m2, m2H, FL.m1, m1H, mNil, mCons, mMk, mTb, mTNot, mTAnd, mTOr, mTru, mAnd, mOr, mIf, mChain, sSeq, sNil, sIf, sRet, sDrop, sAsg, gSet, gSets, gUn, lentS_un, lentS_sh, lentS_owt, deref, gI, gB, gNeg, gNot, gTupD, gLstD, szOk, truD, cMod, cDiv, mkFn, mkFnO, endF, FL.cut, FL.cutS, mCall, mCallO, mCallK, sOwn, sRetO, sRetV, gIx, gDGet, keyD, getK, putKD, sDPutD, mDispN, mDicN, gAdd, gMul, gSl, mPn, mPs, mSl, cutA, HT.sIx, gMin2, gMax2, gList, gTuple, gLen, gIsi, isObjD, kindN, isiB, sForL, sForT, sForR, itemsD, rgOk, sPar, cond_true, cond_false, sizeLine_eq, sAppend, mPop]
end PL

namespace PL
open PySem PySem.Spec PyProof.Rows L2 FL
set_option maxRecDepth 100000
set_option maxHeartbeats 8000000
set_option linter.all false
noncomputable def bI : FS := (sIf (mTNot (mTb (mCall F_is_pair (mCons (mVar 2) mNil)))) sBad sNil)
theorem loopI (s0 s1 : Sl) : ∀ (l : List PP) (x2 : Sl), lentS x2 = false → (∀ p ∈ l, Pr p) → ∃ y, loopF (gSet 2) bI (l.map tupP) [s0, s1, x2] = some (.nx [s0, s1, y])
  | [], x2, _, _ => ⟨x2, rfl⟩
  | p :: l, x2, h, hp => by
    obtain ⟨y, ih⟩ := loopI s0 s1 l (.sh (tupP p)) rfl fun q hq => hp q (List.mem_cons_of_mem _ hq)
    refine ⟨y, ?_⟩
    have e1 : gSet 2 (tupP p) [s0, s1, x2] = some [s0, s1, .sh (tupP p)] := by simp [gSet, h]
    have hq := is_pair_tup (hp p List.mem_cons_self)
    have e2 : bI [s0, s1, .sh (tupP p)] = some (.nx [s0, s1, .sh (tupP p)]) := by simp [bI, hq, mC, mVar, mHs, mV, FL.m2, m2H, FL.m1, m1H, mNil, mCons, mMk, mTb, mTNot, mTAnd, mTOr, mTru, mAnd, mOr, mIf, mChain, sSeq, sNil, sIf, sRet, sDrop, sAsg, gSet, gSets, gUn, lentS_un, lentS_sh, lentS_owt, deref, gI, gB, gNeg, gNot, gTupD, gLstD, szOk, truD, cMod, cDiv, mkFn, mkFnO, endF, FL.cut, FL.cutS, mCall, mCallO, mCallK, sOwn, sRetO, sRetV, gIx, gDGet, keyD, getK, putKD, sDPutD, mDispN, mDicN, gAdd, gMul, gSl, mPn, mPs, mSl, cutA, HT.sIx, gMin2, gMax2, gList, gTuple, gLen, gIsi, isObjD, kindN, isiB, sForL, sForT, sForR, itemsD, rgOk, sPar, cond_true, cond_false, sizeLine_eq, sAppend, mPop]
    rw [List.map_cons]
    unfold loopF
    rw [e1]
    show (match bI [s0, s1, .sh (tupP p)] with
      | some (.nx e2) => loopF (gSet 2) bI (l.map tupP) e2
      | some (.ct e2) => loopF (gSet 2) bI (l.map tupP) e2
      | some (.bk e2) => some (.nx e2)
      | some (.rt d e2) => some (.rt d e2)
      | some (.ro d e2) => some (.ro d e2)
      | none => none) = _
    rw [e2]
    exact ih
def St (ps : List PP) : D := .obj "Stairs" [("_corners", L (cornR ps))]
theorem init (ps : List PP) (h : ps.length < 900) (hp : ∀ p ∈ ps, Pr p) : F_Stairs____init__ [.ow false (.obj "Stairs" []), .sh (.tup (ps.map tupP))] = some (.non, [.ow false (St ps), .un]) := by
  have eb : B_Stairs____init__ = (sSeq (sForT (mVar 1) (gSet 2) bI) (sFldD 0 "Stairs" "_corners" (mCall F__corners_among (mCons (mVar 1) mNil)))) := rfl
  obtain ⟨y, q⟩ := loopI (.ow false (.obj "Stairs" [])) (.sh (.tup (ps.map tupP))) ps .un rfl hp
  have c := corners ps h
  unfold St
  generalize L (cornR ps) = R at c ⊢
  generalize ps.map tupP = G at q c ⊢
  unfold F_Stairs____init__
  rw [eb]
  have e3 : sFldD 0 "Stairs" "_corners" (mCall F__corners_among (mCons (mVar 1) mNil)) [.ow false (.obj "Stairs" []), .sh (.tup G), y] = some (.nx [.ow false (.obj "Stairs" [("_corners", R)]), .sh (.tup G), y]) := by
    unfold sFldD
    simp [c, putFD, mC, mVar, mHs, mV, FL.m2, m2H, FL.m1, m1H, mNil, mCons, mMk, mTb, mTNot, mTAnd, mTOr, mTru, mAnd, mOr, mIf, mChain, sSeq, sNil, sIf, sRet, sDrop, sAsg, gSet, gSets, gUn, lentS_un, lentS_sh, lentS_owt, deref, gI, gB, gNeg, gNot, gTupD, gLstD, szOk, truD, cMod, cDiv, mkFn, mkFnO, endF, FL.cut, FL.cutS, mCall, mCallO, mCallK, sOwn, sRetO, sRetV, gIx, gDGet, keyD, getK, putKD, sDPutD, mDispN, mDicN, gAdd, gMul, gSl, mPn, mPs, mSl, cutA, HT.sIx, gMin2, gMax2, gList, gTuple, gLen, gIsi, isObjD, kindN, isiB, sForL, sForT, sForR, itemsD, rgOk, sPar, cond_true, cond_false, sizeLine_eq, sAppend, mPop]
  generalize sFldD 0 "Stairs" "_corners" (mCall F__corners_among (mCons (mVar 1) mNil)) = W at e3 ⊢
  simp [q, e3, sForT, mC, mVar, mHs, mV, FL.m2, m2H, FL.m1, m1H, mNil, mCons, mMk, mTb, mTNot, mTAnd, mTOr, mTru, mAnd, mOr, mIf, mChain, sSeq, sNil, sIf, sRet, sDrop, sAsg, gSet, gSets, gUn, lentS_un, lentS_sh, lentS_owt, deref, gI, gB, gNeg, gNot, gTupD, gLstD, szOk, truD, cMod, cDiv, mkFn, mkFnO, endF, FL.cut, FL.cutS, mCall, mCallO, mCallK, sOwn, sRetO, sRetV, gIx, gDGet, keyD, getK, putKD, sDPutD, mDispN, mDicN, gAdd, gMul, gSl, mPn, mPs, mSl, cutA, HT.sIx, gMin2, gMax2, gList, gTuple, gLen, gIsi, isObjD, kindN, isiB, sForL, sForT, sForR, itemsD, rgOk, sPar, cond_true, cond_false, sizeLine_eq, sAppend, mPop]
theorem made (ps : List PP) (h : ps.length ≤ 5) (hp : ∀ p ∈ ps, Pr p) : F__law_made [.sh (.lst (ps.map tupP))] = some (St ps, [.un]) := by
  have q := init ps (by omega) hp
  match ps, h with
  | [], _ =>
    simp only [List.map_cons, List.map_nil] at q ⊢
    generalize St [] = R at q ⊢
    simp [F__law_made, B__law_made, mMakeS, cLen, q, eqI, mC, mVar, mHs, mV, FL.m2, m2H, FL.m1, m1H, mNil, mCons, mMk, mTb, mTNot, mTAnd, mTOr, mTru, mAnd, mOr, mIf, mChain, sSeq, sNil, sIf, sRet, sDrop, sAsg, gSet, gSets, gUn, lentS_un, lentS_sh, lentS_owt, deref, gI, gB, gNeg, gNot, gTupD, gLstD, szOk, truD, cMod, cDiv, mkFn, mkFnO, endF, FL.cut, FL.cutS, mCall, mCallO, mCallK, sOwn, sRetO, sRetV, gIx, gDGet, keyD, getK, putKD, sDPutD, mDispN, mDicN, gAdd, gMul, gSl, mPn, mPs, mSl, cutA, HT.sIx, gMin2, gMax2, gList, gTuple, gLen, gIsi, isObjD, kindN, isiB, sForL, sForT, sForR, itemsD, rgOk, sPar, cond_true, cond_false, sizeLine_eq, sAppend, mPop, atI, ixN]
  | [a], _ =>
    simp only [List.map_cons, List.map_nil] at q ⊢
    generalize St [a] = R at q ⊢
    simp [F__law_made, B__law_made, mMakeS, cLen, q, eqI, mC, mVar, mHs, mV, FL.m2, m2H, FL.m1, m1H, mNil, mCons, mMk, mTb, mTNot, mTAnd, mTOr, mTru, mAnd, mOr, mIf, mChain, sSeq, sNil, sIf, sRet, sDrop, sAsg, gSet, gSets, gUn, lentS_un, lentS_sh, lentS_owt, deref, gI, gB, gNeg, gNot, gTupD, gLstD, szOk, truD, cMod, cDiv, mkFn, mkFnO, endF, FL.cut, FL.cutS, mCall, mCallO, mCallK, sOwn, sRetO, sRetV, gIx, gDGet, keyD, getK, putKD, sDPutD, mDispN, mDicN, gAdd, gMul, gSl, mPn, mPs, mSl, cutA, HT.sIx, gMin2, gMax2, gList, gTuple, gLen, gIsi, isObjD, kindN, isiB, sForL, sForT, sForR, itemsD, rgOk, sPar, cond_true, cond_false, sizeLine_eq, sAppend, mPop, atI, ixN]
  | [a, b], _ =>
    simp only [List.map_cons, List.map_nil] at q ⊢
    generalize St [a, b] = R at q ⊢
    simp [F__law_made, B__law_made, mMakeS, cLen, q, eqI, mC, mVar, mHs, mV, FL.m2, m2H, FL.m1, m1H, mNil, mCons, mMk, mTb, mTNot, mTAnd, mTOr, mTru, mAnd, mOr, mIf, mChain, sSeq, sNil, sIf, sRet, sDrop, sAsg, gSet, gSets, gUn, lentS_un, lentS_sh, lentS_owt, deref, gI, gB, gNeg, gNot, gTupD, gLstD, szOk, truD, cMod, cDiv, mkFn, mkFnO, endF, FL.cut, FL.cutS, mCall, mCallO, mCallK, sOwn, sRetO, sRetV, gIx, gDGet, keyD, getK, putKD, sDPutD, mDispN, mDicN, gAdd, gMul, gSl, mPn, mPs, mSl, cutA, HT.sIx, gMin2, gMax2, gList, gTuple, gLen, gIsi, isObjD, kindN, isiB, sForL, sForT, sForR, itemsD, rgOk, sPar, cond_true, cond_false, sizeLine_eq, sAppend, mPop, atI, ixN]
  | [a, b, c], _ =>
    simp only [List.map_cons, List.map_nil] at q ⊢
    generalize St [a, b, c] = R at q ⊢
    simp [F__law_made, B__law_made, mMakeS, cLen, q, eqI, mC, mVar, mHs, mV, FL.m2, m2H, FL.m1, m1H, mNil, mCons, mMk, mTb, mTNot, mTAnd, mTOr, mTru, mAnd, mOr, mIf, mChain, sSeq, sNil, sIf, sRet, sDrop, sAsg, gSet, gSets, gUn, lentS_un, lentS_sh, lentS_owt, deref, gI, gB, gNeg, gNot, gTupD, gLstD, szOk, truD, cMod, cDiv, mkFn, mkFnO, endF, FL.cut, FL.cutS, mCall, mCallO, mCallK, sOwn, sRetO, sRetV, gIx, gDGet, keyD, getK, putKD, sDPutD, mDispN, mDicN, gAdd, gMul, gSl, mPn, mPs, mSl, cutA, HT.sIx, gMin2, gMax2, gList, gTuple, gLen, gIsi, isObjD, kindN, isiB, sForL, sForT, sForR, itemsD, rgOk, sPar, cond_true, cond_false, sizeLine_eq, sAppend, mPop, atI, ixN]
  | [a, b, c, d], _ =>
    simp only [List.map_cons, List.map_nil] at q ⊢
    generalize St [a, b, c, d] = R at q ⊢
    simp [F__law_made, B__law_made, mMakeS, cLen, q, eqI, mC, mVar, mHs, mV, FL.m2, m2H, FL.m1, m1H, mNil, mCons, mMk, mTb, mTNot, mTAnd, mTOr, mTru, mAnd, mOr, mIf, mChain, sSeq, sNil, sIf, sRet, sDrop, sAsg, gSet, gSets, gUn, lentS_un, lentS_sh, lentS_owt, deref, gI, gB, gNeg, gNot, gTupD, gLstD, szOk, truD, cMod, cDiv, mkFn, mkFnO, endF, FL.cut, FL.cutS, mCall, mCallO, mCallK, sOwn, sRetO, sRetV, gIx, gDGet, keyD, getK, putKD, sDPutD, mDispN, mDicN, gAdd, gMul, gSl, mPn, mPs, mSl, cutA, HT.sIx, gMin2, gMax2, gList, gTuple, gLen, gIsi, isObjD, kindN, isiB, sForL, sForT, sForR, itemsD, rgOk, sPar, cond_true, cond_false, sizeLine_eq, sAppend, mPop, atI, ixN]
  | [a, b, c, d, e], _ =>
    simp only [List.map_cons, List.map_nil] at q ⊢
    generalize St [a, b, c, d, e] = R at q ⊢
    simp [F__law_made, B__law_made, mMakeS, cLen, q, eqI, mC, mVar, mHs, mV, FL.m2, m2H, FL.m1, m1H, mNil, mCons, mMk, mTb, mTNot, mTAnd, mTOr, mTru, mAnd, mOr, mIf, mChain, sSeq, sNil, sIf, sRet, sDrop, sAsg, gSet, gSets, gUn, lentS_un, lentS_sh, lentS_owt, deref, gI, gB, gNeg, gNot, gTupD, gLstD, szOk, truD, cMod, cDiv, mkFn, mkFnO, endF, FL.cut, FL.cutS, mCall, mCallO, mCallK, sOwn, sRetO, sRetV, gIx, gDGet, keyD, getK, putKD, sDPutD, mDispN, mDicN, gAdd, gMul, gSl, mPn, mPs, mSl, cutA, HT.sIx, gMin2, gMax2, gList, gTuple, gLen, gIsi, isObjD, kindN, isiB, sForL, sForT, sForR, itemsD, rgOk, sPar, cond_true, cond_false, sizeLine_eq, sAppend, mPop, atI, ixN]
/-! ### in -/
noncomputable def bK : FS := (sIf (mTb (mLe (mV (m2H gIx (mHs 1) (mV (mC (.int 0))))) (mHs 2))) (sRet (mGe (mV (m2H gIx (mHs 1) (mV (mC (.int 1))))) (mHs 3))) sNil)
theorem loopK (s0 : Sl) (v : PP) : ∀ (l : List PP) (x2 x3 : Sl), lentS x2 = false → lentS x3 = false → (∃ y2 y3, loopF (gUn [gSet 2, gSet 3]) bK (l.map tupP) [s0, .sh (tupP v), x2, x3] = some (.rt (.bl (contF l v)) [s0, .sh (tupP v), y2, y3])) ∨
    (∃ y2 y3, loopF (gUn [gSet 2, gSet 3]) bK (l.map tupP) [s0, .sh (tupP v), x2, x3] = some (.nx [s0, .sh (tupP v), y2, y3]) ∧ contF l v = false)
  | [], x2, x3, _, _ => .inr ⟨x2, x3, rfl, rfl⟩
  | p :: l, x2, x3, h2, h3 => by
    have e1 : gUn [gSet 2, gSet 3] (tupP p) [s0, .sh (tupP v), x2, x3] = some [s0, .sh (tupP v), .sh (.int p.1), .sh (.int p.2)] := by simp [gUn, gSets, gSet, tupP, h2, h3]
    have i0 : atI [D.int v.1, D.int v.2] 0 = some (D.int v.1) := rfl
    have i1 : atI [D.int v.1, D.int v.2] 1 = some (D.int v.2) := rfl
    have ih := loopK s0 v l (.sh (.int p.1)) (.sh (.int p.2)) rfl rfl
    have un : loopF (gUn [gSet 2, gSet 3]) bK ((p :: l).map tupP) [s0, .sh (tupP v), x2, x3] = (match bK [s0, .sh (tupP v), .sh (.int p.1), .sh (.int p.2)] with
      | some (.nx e2) => loopF (gUn [gSet 2, gSet 3]) bK (l.map tupP) e2
      | some (.ct e2) => loopF (gUn [gSet 2, gSet 3]) bK (l.map tupP) e2
      | some (.bk e2) => some (.nx e2)
      | some (.rt d e2) => some (.rt d e2)
      | some (.ro d e2) => some (.ro d e2)
      | none => none) := by
      rw [List.map_cons]
      show loopF (gUn [gSet 2, gSet 3]) bK (tupP p :: l.map tupP) _ = _
      conv => lhs; unfold loopF
      first | (rw [e1]; done) | (rw [e1]; rfl)
    rw [un]
    unfold contF
    by_cases c : v.1 ≤ p.1
    · have e2 : bK [s0, .sh (tupP v), .sh (.int p.1), .sh (.int p.2)] = some (.rt (.bl (decide (p.2 ≤ v.2))) [s0, .sh (tupP v), .sh (.int p.1), .sh (.int p.2)]) := by
        simp [bK, tupP, i0, i1, c, mC, mVar, mHs, mV, FL.m2, m2H, FL.m1, m1H, mNil, mCons, mMk, mTb, mTNot, mTAnd, mTOr, mTru, mAnd, mOr, mIf, mChain, sSeq, sNil, sIf, sRet, sDrop, sAsg, gSet, gSets, gUn, lentS_un, lentS_sh, lentS_owt, deref, gI, gB, gNeg, gNot, gTupD, gLstD, szOk, truD, cMod, cDiv, mkFn, mkFnO, endF, FL.cut, FL.cutS, mCall, mCallO, mCallK, sOwn, sRetO, sRetV, gIx, gDGet, keyD, getK, putKD, sDPutD, mDispN, mDicN, gAdd, gMul, gSl, mPn, mPs, mSl, cutA, HT.sIx, gMin2, gMax2, gList, gTuple, gLen, gIsi, isObjD, kindN, isiB, sForL, sForT, sForR, itemsD, rgOk, sPar, cond_true, cond_false, sizeLine_eq, sAppend, mPop]
      rw [e2, if_pos c]
      exact .inl ⟨_, _, rfl⟩
    · have e2 : bK [s0, .sh (tupP v), .sh (.int p.1), .sh (.int p.2)] = some (.nx [s0, .sh (tupP v), .sh (.int p.1), .sh (.int p.2)]) := by
        simp [bK, tupP, i0, i1, c, mC, mVar, mHs, mV, FL.m2, m2H, FL.m1, m1H, mNil, mCons, mMk, mTb, mTNot, mTAnd, mTOr, mTru, mAnd, mOr, mIf, mChain, sSeq, sNil, sIf, sRet, sDrop, sAsg, gSet, gSets, gUn, lentS_un, lentS_sh, lentS_owt, deref, gI, gB, gNeg, gNot, gTupD, gLstD, szOk, truD, cMod, cDiv, mkFn, mkFnO, endF, FL.cut, FL.cutS, mCall, mCallO, mCallK, sOwn, sRetO, sRetV, gIx, gDGet, keyD, getK, putKD, sDPutD, mDispN, mDicN, gAdd, gMul, gSl, mPn, mPs, mSl, cutA, HT.sIx, gMin2, gMax2, gList, gTuple, gLen, gIsi, isObjD, kindN, isiB, sForL, sForT, sForR, itemsD, rgOk, sPar, cond_true, cond_false, sizeLine_eq, sAppend, mPop]
      rw [e2, if_neg c]
      exact ih
theorem contains (ps : List PP) (v : PP) (hv : Pr v) : F_Stairs____contains__ [.sh (St ps), .sh (tupP v)] = some (.bl (contF (cornR ps).reverse v), [.un, .un]) := by
  have eb : B_Stairs____contains__ = (sSeq (sIf (mTNot (mTb (mCall F_is_pair (mCons (mVar 1) mNil)))) (sRet (mC (.bl false))) sNil)
    (sSeq (sForL (m1H (gFld "Stairs" "_corners") (mHs 0)) (gUn [(gSet 2), (gSet 3)]) bK) (sRet (mC (.bl false))))) := rfl
  have hq := is_pair_tup hv
  have hf : gFld "Stairs" "_corners" (St ps) = some (.lst ((cornR ps).reverse.map tupP)) := by simp [gFld, St, L]
  have k := loopK (.sh (St ps)) v (cornR ps).reverse .un .un rfl rfl
  generalize hG : (cornR ps).reverse.map tupP = G at k hf
  generalize St ps = R at k hf ⊢
  generalize contF (cornR ps).reverse v = b at k ⊢
  generalize tupP v = V at k hq ⊢
  unfold F_Stairs____contains__
  rw [eb]
  rcases k with ⟨y2, y3, k⟩ | ⟨y2, y3, k, rfl⟩
  · simp [hq, hf, k, mC, mVar, mHs, mV, FL.m2, m2H, FL.m1, m1H, mNil, mCons, mMk, mTb, mTNot, mTAnd, mTOr, mTru, mAnd, mOr, mIf, mChain, sSeq, sNil, sIf, sRet, sDrop, sAsg, gSet, gSets, gUn, lentS_un, lentS_sh, lentS_owt, deref, gI, gB, gNeg, gNot, gTupD, gLstD, szOk, truD, cMod, cDiv, mkFn, mkFnO, endF, FL.cut, FL.cutS, mCall, mCallO, mCallK, sOwn, sRetO, sRetV, gIx, gDGet, keyD, getK, putKD, sDPutD, mDispN, mDicN, gAdd, gMul, gSl, mPn, mPs, mSl, cutA, HT.sIx, gMin2, gMax2, gList, gTuple, gLen, gIsi, isObjD, kindN, isiB, sForL, sForT, sForR, itemsD, rgOk, sPar, cond_true, cond_false, sizeLine_eq, sAppend, mPop]
  · simp [hq, hf, k, mC, mVar, mHs, mV, FL.m2, m2H, FL.m1, m1H, mNil, mCons, mMk, mTb, mTNot, mTAnd, mTOr, mTru, mAnd, mOr, mIf, mChain, sSeq, sNil, sIf, sRet, sDrop, sAsg, gSet, gSets, gUn, lentS_un, lentS_sh, lentS_owt, deref, gI, gB, gNeg, gNot, gTupD, gLstD, szOk, truD, cMod, cDiv, mkFn, mkFnO, endF, FL.cut, FL.cutS, mCall, mCallO, mCallK, sOwn, sRetO, sRetV, gIx, gDGet, keyD, getK, putKD, sDPutD, mDispN, mDicN, gAdd, gMul, gSl, mPn, mPs, mSl, cutA, HT.sIx, gMin2, gMax2, gList, gTuple, gLen, gIsi, isObjD, kindN, isiB, sForL, sForT, sForR, itemsD, rgOk, sPar, cond_true, cond_false, sizeLine_eq, sAppend, mPop]
theorem contains_no (ps : List PP) (v : D) (h : pl2 v) (hv : pr v = false) : F_Stairs____contains__ [.sh (St ps), .sh v] = some (.bl false, [.un, .un]) := by
  have hq := f_is_pair v h
  rw [hv] at hq
  simp [F_Stairs____contains__, B_Stairs____contains__, hq, mC, mVar, mHs, mV, FL.m2, m2H, FL.m1, m1H, mNil, mCons, mMk, mTb, mTNot, mTAnd, mTOr, mTru, mAnd, mOr, mIf, mChain, sSeq, sNil, sIf, sRet, sDrop, sAsg, gSet, gSets, gUn, lentS_un, lentS_sh, lentS_owt, deref, gI, gB, gNeg, gNot, gTupD, gLstD, szOk, truD, cMod, cDiv, mkFn, mkFnO, endF, FL.cut, FL.cutS, mCall, mCallO, mCallK, sOwn, sRetO, sRetV, gIx, gDGet, keyD, getK, putKD, sDPutD, mDispN, mDicN, gAdd, gMul, gSl, mPn, mPs, mSl, cutA, HT.sIx, gMin2, gMax2, gList, gTuple, gLen, gIsi, isObjD, kindN, isiB, sForL, sForT, sForR, itemsD, rgOk, sPar, cond_true, cond_false, sizeLine_eq, sAppend, mPop]
end PL

namespace PL
open PySem PySem.Spec PyProof.Rows L2 FL
set_option maxRecDepth 100000
set_option maxHeartbeats 8000000
set_option linter.all false
theorem neL (xs : List D) (p : List PyData) (h : toPs xs = some p) (hs : SeqAt.shaped (.list p) = true) (b : Bool) (hb : PyData.eqv (.list p) (.list []) = b) : gNe (.lst xs) (.lst []) = some (.bl !b) := by
  show gNeD (.lst xs) (.lst []) = _
  unfold gNeD
  have e0 : toP (.lst xs) = some (.list p) := by unfold toP; rw [h]
  rw [e0]
  show (bif eqOk (.list p) (.list []) then some (D.bl (!PyData.eqv (.list p) (.list []))) else none) = _
  have e : eqOk (.list p) (.list []) = true := chk_yes ⟨hs, rfl⟩
  rw [e, hb]
  rfl
theorem neP (xs : List PP) (h : xs.length ≤ 5) : gNe (.lst (xs.map tupP)) (.lst []) = some (.bl !xs.isEmpty) := by
  match xs, h with
  | [], _ => exact neL _ _ rfl rfl true rfl
  | [a], _ => exact neL _ _ rfl rfl false rfl
  | [a, b], _ => exact neL _ _ rfl rfl false rfl
  | [a, b, c], _ => exact neL _ _ rfl rfl false rfl
  | [a, b, c, d], _ => exact neL _ _ rfl rfl false rfl
  | [a, b, c, d, e], _ => exact neL _ _ rfl rfl false rfl
def inP (v q : PP) : Bool := decide (v.1 ≤ q.1) && decide (q.2 ≤ v.2)
noncomputable def tH : M Bool := (mTAnd (mTb (mLe (mV (m2H gIx (mHs 1) (mV (mC (.int 0))))) (mV (m2H gIx (mHs 2) (mV (mC (.int 0))))))) (mTb (mGe (mV (m2H gIx (mHs 1) (mV (mC (.int 1))))) (mV (m2H gIx (mHs 2) (mV (mC (.int 1))))))))
theorem hasC (A : D) (v : PP) : ∀ l : List PP, compF [2] (gSet 2) PL.tH (mVar 2) (l.map tupP) [.sh A, .sh (tupP v), .un] = some ((l.filter (inP v)).map tupP, [.sh A, .sh (tupP v), .un])
  | [] => rfl
  | q :: l => by
    have ih := hasC A v l
    have i0 : atI [D.int v.1, D.int v.2] 0 = some (D.int v.1) := rfl
    have i1 : atI [D.int v.1, D.int v.2] 1 = some (D.int v.2) := rfl
    have j0 : atI [D.int q.1, D.int q.2] 0 = some (D.int q.1) := rfl
    have j1 : atI [D.int q.1, D.int q.2] 1 = some (D.int q.2) := rfl
    have st : PL.tH [.sh A, .sh (tupP v), .sh (tupP q)] = some (inP v q, [.sh A, .sh (tupP v), .sh (tupP q)]) := by
      by_cases c : v.1 ≤ q.1
      · simp [PL.tH, tupP, inP, i0, i1, j0, j1, c, mC, mVar, mHs, mV, FL.m2, m2H, FL.m1, m1H, mNil, mCons, mMk, mTb, mTNot, mTAnd, mTOr, mTru, mAnd, mOr, mIf, mChain, sSeq, sNil, sIf, sRet, sDrop, sAsg, gSet, gSets, gUn, lentS_un, lentS_sh, lentS_owt, deref, gI, gB, gNeg, gNot, gTupD, gLstD, szOk, truD, cMod, cDiv, mkFn, mkFnO, endF, FL.cut, FL.cutS, mCall, mCallO, mCallK, sOwn, sRetO, sRetV, gIx, gDGet, keyD, getK, putKD, sDPutD, mDispN, mDicN, gAdd, gMul, gSl, mPn, mPs, mSl, cutA, HT.sIx, gMin2, gMax2, gList, gTuple, gLen, gIsi, isObjD, kindN, isiB, sForL, sForT, sForR, itemsD, rgOk, sPar, cond_true, cond_false, sizeLine_eq, sAppend, mPop]
      · simp [PL.tH, tupP, inP, i0, i1, j0, j1, c, mC, mVar, mHs, mV, FL.m2, m2H, FL.m1, m1H, mNil, mCons, mMk, mTb, mTNot, mTAnd, mTOr, mTru, mAnd, mOr, mIf, mChain, sSeq, sNil, sIf, sRet, sDrop, sAsg, gSet, gSets, gUn, lentS_un, lentS_sh, lentS_owt, deref, gI, gB, gNeg, gNot, gTupD, gLstD, szOk, truD, cMod, cDiv, mkFn, mkFnO, endF, FL.cut, FL.cutS, mCall, mCallO, mCallK, sOwn, sRetO, sRetV, gIx, gDGet, keyD, getK, putKD, sDPutD, mDispN, mDicN, gAdd, gMul, gSl, mPn, mPs, mSl, cutA, HT.sIx, gMin2, gMax2, gList, gTuple, gLen, gIsi, isObjD, kindN, isiB, sForL, sForT, sForR, itemsD, rgOk, sPar, cond_true, cond_false, sizeLine_eq, sAppend, mPop]
    cases hb : inP v q with
    | true =>
      rw [hb] at st
      simp [compF, freeE, isOw, wipeE, lend, backC, backCS, gSet, lentS_un, st, ih, hb, mVar]
    | false =>
      rw [hb] at st
      simp [compF, freeE, isOw, wipeE, lend, backC, backCS, gSet, lentS_un, st, ih, hb]
theorem has (ps : List PP) (h : ps.length ≤ 5) (v : PP) : F__law_has [.sh (.lst (ps.map tupP)), .sh (tupP v)] = some (.bl (ps.any (inP v)), [.un, .un]) := by
  have eb : B__law_has = (sRet (m2H gNe (mV (mCompL (mVar 0) (gSet 2) PL.tH (mVar 2) [2])) (mV (mLst mNil)))) := rfl
  have q := hasC (.lst (ps.map tupP)) v ps
  have hl : (ps.filter (inP v)).length ≤ 5 := Nat.le_trans (List.length_filter_le _ _) h
  have hn := neP (ps.filter (inP v)) hl
  have hc : cLen ((ps.filter (inP v)).map tupP).length = true := by unfold cLen; simp; omega
  have he : (!(ps.filter (inP v)).isEmpty) = ps.any (inP v) := by
    rw [Bool.eq_iff_iff]
    simp
  rw [he] at hn
  unfold F__law_has
  rw [eb]
  generalize (ps.filter (inP v)).map tupP = W at q hn hc
  generalize ps.map tupP = G at q ⊢
  generalize tupP v = V at q ⊢
  simp [mCompL, q, hc, hn, mC, mVar, mHs, mV, FL.m2, m2H, FL.m1, m1H, mNil, mCons, mMk, mTb, mTNot, mTAnd, mTOr, mTru, mAnd, mOr, mIf, mChain, sSeq, sNil, sIf, sRet, sDrop, sAsg, gSet, gSets, gUn, lentS_un, lentS_sh, lentS_owt, deref, gI, gB, gNeg, gNot, gTupD, gLstD, szOk, truD, cMod, cDiv, mkFn, mkFnO, endF, FL.cut, FL.cutS, mCall, mCallO, mCallK, sOwn, sRetO, sRetV, gIx, gDGet, keyD, getK, putKD, sDPutD, mDispN, mDicN, gAdd, gMul, gSl, mPn, mPs, mSl, cutA, HT.sIx, gMin2, gMax2, gList, gTuple, gLen, gIsi, isObjD, kindN, isiB, sForL, sForT, sForR, itemsD, rgOk, sPar, cond_true, cond_false, sizeLine_eq, sAppend, mPop]
theorem agree (ps : List PP) (v : PP) : contF (cornR ps).reverse v = ps.any (inP v) := by
  rw [Bool.eq_iff_iff, corn_cont]
  simp [Has, inP]
end PL

namespace PL
open PySem PySem.Spec PyProof.Rows L2 FL
set_option maxRecDepth 100000
set_option maxHeartbeats 4000000
set_option linter.all false
/-! ### corners: the greatest pairs, ascending -/
def Asc (l : List PP) : Prop := l.Pairwise fun a b => a.1 < b.1 ∧ a.2 < b.2
/-- no other pair of the list brings p along -/
def Mx (ps : List PP) (p : PP) : Prop := ∀ o ∈ ps, o ≠ p → ¬ (p.1 ≤ o.1 ∧ o.2 ≤ p.2)
/-- the corners, ascending -/
def corn (ps : List PP) : List PP := (cornR ps).reverse
theorem corn_asc (ps : List PP) : Asc (corn ps) := List.pairwise_reverse.mpr (corn_inv ps).pw
theorem asc_pair {l : List PP} (h : Asc l) {a b : PP} (ha : a ∈ l) (hb : b ∈ l) : a = b ∨ (a.1 < b.1 ∧ a.2 < b.2) ∨ (b.1 < a.1 ∧ b.2 < a.2) := by
  induction l with
  | nil => cases ha
  | cons x t ih =>
    obtain ⟨h1, h2⟩ := List.pairwise_cons.mp h
    rcases List.mem_cons.mp ha with ha' | ha2
    · subst ha'
      rcases List.mem_cons.mp hb with hb' | hb
      · exact .inl hb'.symm
      · exact .inr (.inl (h1 b hb))
    · rcases List.mem_cons.mp hb with hb' | hb
      · subst hb'
        exact .inr (.inr (h1 a ha2))
      · exact ih h2 ha2 hb
theorem asc_ext : ∀ {l m : List PP}, Asc l → Asc m → (∀ q, q ∈ l ↔ q ∈ m) → l = m
  | [], [], _, _, _ => rfl
  | [], b :: m, _, _, h => absurd ((h b).mpr List.mem_cons_self) (by simp)
  | a :: l, [], _, _, h => absurd ((h a).mp List.mem_cons_self) (by simp)
  | a :: l, b :: m, h1, h2, h => by
    obtain ⟨a1, a2⟩ := List.pairwise_cons.mp h1
    obtain ⟨b1, b2⟩ := List.pairwise_cons.mp h2
    have e : a = b := by
      rcases List.mem_cons.mp ((h a).mp List.mem_cons_self) with e | ha
      · exact e
      · rcases List.mem_cons.mp ((h b).mpr List.mem_cons_self) with e | hb
        · exact e.symm
        · have := b1 a ha
          have := a1 b hb
          omega
    subst e
    congr 1
    refine asc_ext a2 b2 fun q => ⟨fun hq => ?_, fun hq => ?_⟩
    · rcases List.mem_cons.mp ((h q).mp (List.mem_cons_of_mem _ hq)) with e | hq'
      · have := a1 q hq
        rw [e] at this; omega
      · exact hq'
    · rcases List.mem_cons.mp ((h q).mpr (List.mem_cons_of_mem _ hq)) with e | hq'
      · have := b1 q hq
        rw [e] at this; omega
      · exact hq'
theorem corn_mem (ps : List PP) (q : PP) : q ∈ corn ps ↔ q ∈ ps ∧ Mx ps q := by
  have hs : ∀ r, r ∈ corn ps → r ∈ ps := fun r hr => (sortP_perm ps).mem_iff.mp ((corn_inv ps).sub r (List.mem_reverse.mp hr))
  have hh : ∀ v, Has ps v → ∃ r ∈ corn ps, v.1 ≤ r.1 ∧ r.2 ≤ v.2 := fun v hv => by
    obtain ⟨r, hr, h⟩ := (corn_has ps v).mpr hv
    exact ⟨r, List.mem_reverse.mpr hr, h⟩
  constructor
  · intro hq
    refine ⟨hs q hq, fun o ho hne h => ?_⟩
    obtain ⟨r, hr, h1, h2⟩ := hh o ⟨o, ho, Int.le_refl _, Int.le_refl _⟩
    rcases asc_pair (corn_asc ps) hq hr with rfl | hlt | hlt
    · exact hne (Prod.ext (by omega) (by omega))
    · omega
    · omega
  · rintro ⟨hq, hm⟩
    obtain ⟨r, hr, h1, h2⟩ := hh q ⟨q, hq, Int.le_refl _, Int.le_refl _⟩
    by_cases e : r = q
    · exact e ▸ hr
    · exact absurd ⟨h1, h2⟩ (hm r (hs r hr) e)
/-- two lists with the same pairs within have the same corners -/
theorem corn_ext {ps qs : List PP} (h : ∀ v, Has ps v ↔ Has qs v) : corn ps = corn qs := by
  refine asc_ext (corn_asc ps) (corn_asc qs) fun q => ?_
  have key : ∀ ps qs : List PP, (∀ v, Has ps v ↔ Has qs v) → q ∈ corn ps → q ∈ corn qs := fun ps qs h hq => by
    have hh : ∀ (l : List PP) v, Has l v ↔ Has (corn l) v := fun l v => (corn_has l v).symm.trans ⟨fun ⟨r, hr, x⟩ => ⟨r, List.mem_reverse.mpr hr, x⟩, fun ⟨r, hr, x⟩ => ⟨r, List.mem_reverse.mp hr, x⟩⟩
    obtain ⟨r, hr, h1, h2⟩ := (hh qs q).mp ((h q).mp ((hh ps q).mpr ⟨q, hq, Int.le_refl _, Int.le_refl _⟩))
    obtain ⟨r2, hr2, h3, h4⟩ := (hh ps r).mp ((h r).mpr ((hh qs r).mpr ⟨r, hr, Int.le_refl _, Int.le_refl _⟩))
    rcases asc_pair (corn_asc ps) hq hr2 with rfl | hlt | hlt
    · have : r = q := Prod.ext (by omega) (by omega)
      exact this ▸ hr
    · omega
    · omega
  exact ⟨key ps qs h, key qs ps fun v => (h v).symm⟩
/-! the law's own way -/
def lawIn (found : List PP) (p : PP) : List PP := found.take (found.filter fun o => decide (o.1 < p.1)).length ++ [p] ++ found.drop (found.filter fun o => decide (o.1 < p.1)).length
def lawStep (ps found : List PP) (p : PP) : List PP := if !decide (p ∈ found) && (ps.filter fun o => !decide (o = p) && inP p o).isEmpty then lawIn found p else found
def lawC (ps : List PP) : List PP := ps.foldl (lawStep ps) []
theorem asc_cut {x : Int} : ∀ {l : List PP}, Asc l → l.take (l.filter fun o => decide (o.1 < x)).length = l.filter (fun o => decide (o.1 < x)) ∧ l.drop (l.filter fun o => decide (o.1 < x)).length = l.filter (fun o => !decide (o.1 < x))
  | [], _ => ⟨rfl, rfl⟩
  | a :: t, h => by
    obtain ⟨h1, h2⟩ := List.pairwise_cons.mp h
    obtain ⟨i1, i2⟩ := asc_cut (x := x) h2
    by_cases c : a.1 < x
    · simp [List.filter_cons, c, i1, i2]
    · have e : t.filter (fun o => decide (o.1 < x)) = [] := by
        rw [List.filter_eq_nil_iff]
        intro o ho
        have := h1 o ho
        simp
        omega
      have e2 : t.filter (fun o => !decide (o.1 < x)) = t := by
        rw [List.filter_eq_self]
        intro o ho
        have := h1 o ho
        simp
        omega
      simp only [List.filter_cons, c, e, e2, decide_false, Bool.not_false, if_true, if_false, Bool.false_eq_true, List.length_nil, List.take_zero, List.drop_zero]
      exact ⟨trivial, trivial⟩
theorem lawIn_ok {found : List PP} {p : PP} (h : Asc found) (hp : ∀ q ∈ found, (q.1 < p.1 ∧ q.2 < p.2) ∨ (p.1 < q.1 ∧ p.2 < q.2)) : Asc (lawIn found p) ∧ ∀ q, q ∈ lawIn found p ↔ q = p ∨ q ∈ found := by
  obtain ⟨e1, e2⟩ := asc_cut (x := p.1) h
  unfold lawIn
  rw [e1, e2]
  refine ⟨?_, fun q => ?_⟩
  · refine List.pairwise_append.mpr ⟨List.pairwise_append.mpr ⟨List.Pairwise.filter _ h, List.pairwise_singleton _ _, fun a ha b hb => ?_⟩, List.Pairwise.filter _ h, fun a ha b hb => ?_⟩
    · rw [List.mem_singleton] at hb
      subst hb
      obtain ⟨h1, h2⟩ := List.mem_filter.mp ha
      have := hp a h1
      simp at h2
      omega
    · obtain ⟨h1, h2⟩ := List.mem_filter.mp hb
      have := hp b h1
      simp at h2
      rcases List.mem_append.mp ha with ha | ha
      · obtain ⟨h3, h4⟩ := List.mem_filter.mp ha
        have := hp a h3
        simp at h4
        omega
      · rw [List.mem_singleton] at ha
        subst ha
        omega
  · simp only [List.mem_append, List.mem_filter, List.mem_singleton]
    constructor
    · rintro ((⟨h1, _⟩ | h1) | ⟨h1, _⟩)
      · exact .inr h1
      · exact .inl h1
      · exact .inr h1
    · rintro (h1 | h1)
      · exact .inl (.inr h1)
      · by_cases c : q.1 < p.1
        · exact .inl (.inl ⟨h1, by simp [c]⟩)
        · exact .inr ⟨h1, by simp [c]⟩
theorem lawC_fold (ps : List PP) : ∀ (l done found : List PP), Asc found → (∀ q, q ∈ found ↔ q ∈ done ∧ Mx ps q) → (∀ q ∈ done, q ∈ ps) → (∀ q ∈ l, q ∈ ps) → Asc (l.foldl (lawStep ps) found) ∧ ∀ q, q ∈ l.foldl (lawStep ps) found ↔ (q ∈ done ∨ q ∈ l) ∧ Mx ps q
  | [], done, found, h1, h2, _, _ => ⟨h1, fun q => by rw [List.foldl_nil, h2]; simp⟩
  | p :: l, done, found, h1, h2, hd, hl => by
    have mx : (ps.filter fun o => !decide (o = p) && inP p o).isEmpty = true ↔ Mx ps p := by
      rw [List.isEmpty_iff, List.filter_eq_nil_iff]
      unfold Mx inP
      constructor
      · intro h o ho hne hh
        have := h o ho
        simp at this
        exact absurd (this hne hh.1) (by omega)
      · intro h o ho
        simp
        intro hne hle
        have := h o ho hne
        omega
    have nxt : Asc (lawStep ps found p) ∧ ∀ q, q ∈ lawStep ps found p ↔ q ∈ done ++ [p] ∧ Mx ps q := by
      unfold lawStep
      split
      · rename_i hc
        rw [Bool.and_eq_true, mx] at hc
        obtain ⟨hc1, hc2⟩ := hc
        simp at hc1
        have hp : ∀ q ∈ found, (q.1 < p.1 ∧ q.2 < p.2) ∨ (p.1 < q.1 ∧ p.2 < q.2) := fun q hq => by
          obtain ⟨hq1, hq2⟩ := (h2 q).mp hq
          have hne : q ≠ p := fun z => by subst z; exact hc1 hq
          have a := hq2 p (hl p List.mem_cons_self) (Ne.symm hne)
          have b := hc2 q (hd q hq1) hne
          omega
        obtain ⟨a, b⟩ := lawIn_ok h1 hp
        refine ⟨a, fun q => ?_⟩
        rw [b, h2]
        simp only [List.mem_append, List.mem_singleton]
        constructor
        · rintro (rfl | ⟨x, y⟩)
          · exact ⟨.inr rfl, hc2⟩
          · exact ⟨.inl x, y⟩
        · rintro ⟨x | x, y⟩
          · exact .inr ⟨x, y⟩
          · exact .inl x
      · rename_i hc
        rw [Bool.and_eq_true, mx] at hc
        refine ⟨h1, fun q => ?_⟩
        rw [h2]
        simp only [List.mem_append, List.mem_singleton]
        constructor
        · rintro ⟨x, y⟩
          exact ⟨.inl x, y⟩
        · rintro ⟨x | x, y⟩
          · exact ⟨x, y⟩
          · subst x
            refine (h2 q).mp (Classical.byContradiction fun z => hc ⟨by simpa using z, y⟩)
    rw [List.foldl_cons]
    obtain ⟨a, b⟩ := lawC_fold ps l (done ++ [p]) (lawStep ps found p) nxt.1 nxt.2 (fun q hq => by
      rcases List.mem_append.mp hq with hq | hq
      · exact hd q hq
      · rw [List.mem_singleton] at hq; subst hq; exact hl q List.mem_cons_self) fun q hq => hl q (List.mem_cons_of_mem _ hq)
    refine ⟨a, fun q => ?_⟩
    rw [b]
    simp only [List.mem_append, List.mem_cons, List.not_mem_nil, or_assoc, false_or]
theorem lawC_eq (ps : List PP) : lawC ps = corn ps := by
  obtain ⟨a, b⟩ := lawC_fold ps ps [] [] .nil (fun q => by simp) (fun q hq => by cases hq) fun q hq => hq
  refine asc_ext a (corn_asc ps) fun q => ?_
  have := b q
  unfold lawC
  rw [this, corn_mem]
  simp
end PL

namespace PL
open PySem PySem.Spec PyProof.Rows L2 FL
set_option maxRecDepth 100000
set_option maxHeartbeats 8000000
set_option linter.all false
/-! ### the law's corners -/
noncomputable def tO1 : M Bool := (mTAnd (mTb (m2H gNe (mHs 5) (mHs 2))) (mTb (mCall F__law_has (mCons (mLst (mCons (mVar 5) mNil)) (mCons (mVar 2) mNil)))))
noncomputable def tO2 : M Bool := (mTb (mLt (mV (m2H gIx (mHs 5) (mV (mC (.int 0))))) (mV (m2H gIx (mHs 2) (mV (mC (.int 0)))))))
noncomputable def bW : FS := (sSeq (sOwn 3 (mCompL (mVar 0) (gSet 5) tO1 (mVar 5) [5]))
  (sIf (mTAnd (mTb (m2H (gInL true) (mHs 2) (mHs 1))) (mTb (m2H gEq (mHs 3) (mV (mLst mNil))))) (sSeq (sAsg (gSet 4) (m1H gLen (mV (mCompH 1 (gSet 5) tO2 (mVar 5) [5]))))
  (sInsert 1 (mVar 4) (mVar 2))) sNil))
theorem compO1 (ps : List PP) (p : PP) (x1 x3 x4 : Sl) : compF [5] (gSet 5) tO1 (mVar 5) (ps.map tupP) [.sh (.lst (ps.map tupP)), x1, .sh (tupP p), x3, x4, .un] =
    some ((ps.filter fun o => !decide (o = p) && inP p o).map tupP, [.sh (.lst (ps.map tupP)), x1, .sh (tupP p), x3, x4, .un]) := by
  generalize hA : D.lst (ps.map tupP) = A
  refine comp_map (by simp [lend_nil, lend_cons, lendS_sh, lendS_un, lendS_ow, backCS_lendS, backCS_sh, backCS_un, backCS_ow, backC_nil, backC_cons, isOw_un, isOw_sh, wipeE, freeE]) ps fun o _ => ⟨?_⟩
  have h1 := neP1 o p
  have h2 := has [o] (by simp) p
  have e2 : [o].any (inP p) = inP p o := by simp
  rw [e2] at h2
  have e3 : [o].map tupP = [tupP o] := rfl
  rw [e3] at h2
  generalize inP p o = B at h2 ⊢
  generalize decide (o = p) = B1 at h1 ⊢
  generalize tupP p = V at h1 h2 ⊢
  generalize tupP o = W at h1 h2 ⊢
  refine ⟨[.sh A, lendS x1, .sh V, lendS x3, lendS x4, .sh W], [.sh A, lendS x1, .sh V, lendS x3, lendS x4, .sh W], ?_, ?_, ?_, fun _ => ⟨[.sh A, lendS x1, .sh V, lendS x3, lendS x4, .sh W], ?_, ?_⟩⟩
  · simp [gSet, lentS_un, lend_nil, lend_cons, lendS_sh, lendS_un, lendS_ow, backCS_lendS, backCS_sh, backCS_un, backCS_ow, backC_nil, backC_cons, isOw_un, isOw_sh, wipeE, freeE]
  · cases B1 <;> simp [tO1, h1, h2, mC, mVar, mHs, mV, FL.m2, m2H, FL.m1, m1H, mNil, mCons, mMk, mTb, mTNot, mTAnd, mTOr, mTru, mAnd, mOr, mIf, mChain, sSeq, sNil, sIf, sRet, sDrop, sAsg, gSet, gSets, gUn, lentS_un, lentS_sh, lentS_owt, deref, gI, gB, gNeg, gNot, gTupD, gLstD, szOk, truD, cMod, cDiv, mkFn, mkFnO, endF, FL.cut, FL.cutS, mCall, mCallO, mCallK, sOwn, sRetO, sRetV, gIx, gDGet, keyD, getK, putKD, sDPutD, mDispN, mDicN, gAdd, gMul, gSl, mPn, mPs, mSl, cutA, HT.sIx, gMin2, gMax2, gList, gTuple, gLen, gIsi, isObjD, kindN, isiB, sForL, sForT, sForR, itemsD, rgOk, sPar, cond_true, cond_false, sizeLine_eq, sAppend, mPop]
  · simp [lend_nil, lend_cons, lendS_sh, lendS_un, lendS_ow, backCS_lendS, backCS_sh, backCS_un, backCS_ow, backC_nil, backC_cons, isOw_un, isOw_sh, wipeE, freeE]
  · simp [mVar]
  · simp [lend_nil, lend_cons, lendS_sh, lendS_un, lendS_ow, backCS_lendS, backCS_sh, backCS_un, backCS_ow, backC_nil, backC_cons, isOw_un, isOw_sh, wipeE, freeE]
theorem compO2 (A : D) (found : List PP) (p : PP) (f : Bool) (x3 x4 : Sl) : compH 1 (found.map tupP) [5] (gSet 5) tO2 (mVar 5) (found.map tupP) [.sh A, .ow f (.lst (found.map tupP)), .sh (tupP p), x3, x4, .un] =
    some ((found.filter fun o => decide (o.1 < p.1)).map tupP, [.sh A, .ow f (.lst (found.map tupP)), .sh (tupP p), x3, x4, .un]) := by
  refine compH_map (by simp [lend_nil, lend_cons, lendS_sh, lendS_un, lendS_ow, backCS_lendS, backCS_sh, backCS_un, backCS_ow, backC_nil, backC_cons, isOw_un, isOw_sh, wipeE, freeE]) (keepB_yes (f := f) rfl) found fun o _ => ⟨?_⟩
  have i0 : atI [D.int p.1, D.int p.2] 0 = some (D.int p.1) := rfl
  have j0 : atI [D.int o.1, D.int o.2] 0 = some (D.int o.1) := rfl
  generalize D.lst (found.map tupP) = G
  refine ⟨[.sh A, .ow false G, .sh (tupP p), lendS x3, lendS x4, .sh (tupP o)], [.sh A, .ow false G, .sh (tupP p), lendS x3, lendS x4, .sh (tupP o)], ?_, ?_, ?_, fun _ => ⟨[.sh A, .ow false G, .sh (tupP p), lendS x3, lendS x4, .sh (tupP o)], ?_, ?_⟩⟩
  · simp [gSet, lentS_un, lend_nil, lend_cons, lendS_sh, lendS_un, lendS_ow, backCS_lendS, backCS_sh, backCS_un, backCS_ow, backC_nil, backC_cons, isOw_un, isOw_sh, wipeE, freeE]
  · simp [tO2, tupP, i0, j0, mC, mVar, mHs, mV, FL.m2, m2H, FL.m1, m1H, mNil, mCons, mMk, mTb, mTNot, mTAnd, mTOr, mTru, mAnd, mOr, mIf, mChain, sSeq, sNil, sIf, sRet, sDrop, sAsg, gSet, gSets, gUn, lentS_un, lentS_sh, lentS_owt, deref, gI, gB, gNeg, gNot, gTupD, gLstD, szOk, truD, cMod, cDiv, mkFn, mkFnO, endF, FL.cut, FL.cutS, mCall, mCallO, mCallK, sOwn, sRetO, sRetV, gIx, gDGet, keyD, getK, putKD, sDPutD, mDispN, mDicN, gAdd, gMul, gSl, mPn, mPs, mSl, cutA, HT.sIx, gMin2, gMax2, gList, gTuple, gLen, gIsi, isObjD, kindN, isiB, sForL, sForT, sForR, itemsD, rgOk, sPar, cond_true, cond_false, sizeLine_eq, sAppend, mPop]
  · simp [lend_nil, lend_cons, lendS_sh, lendS_un, lendS_ow, backCS_lendS, backCS_sh, backCS_un, backCS_ow, backC_nil, backC_cons, isOw_un, isOw_sh, wipeE, freeE]
  · simp [mVar]
  · simp [lend_nil, lend_cons, lendS_sh, lendS_un, lendS_ow, backCS_lendS, backCS_sh, backCS_un, backCS_ow, backC_nil, backC_cons, isOw_un, isOw_sh, wipeE, freeE]
theorem turnW (ps found : List PP) (p : PP) (x3 x4 : Sl) (h3 : lentS x3 = false) (h4 : lentS x4 = false) (hl : ps.length < 900) (hf : found.length < 900) :
    ∃ y3 y4, bW [.sh (.lst (ps.map tupP)), .ow true (.lst (found.map tupP)), .sh (tupP p), x3, x4, .un] = some (.nx [.sh (.lst (ps.map tupP)), .ow true (.lst ((lawStep ps found p).map tupP)), .sh (tupP p), y3, y4, .un]) ∧ lentS y3 = false ∧ lentS y4 = false := by
  have c1 := compO1 ps p (.ow true (.lst (found.map tupP))) x3 x4
  have hlo := List.length_filter_le (fun o => !decide (o = p) && inP p o) ps
  have hlf := List.length_filter_le (fun o => decide (o.1 < p.1)) found
  have k1 : cLen (((ps.filter fun o => !decide (o = p) && inP p o).map tupP).length) = true := by unfold cLen; simp; omega
  have k2 : cLen (((found.filter fun o => decide (o.1 < p.1)).map tupP).length) = true := by unfold cLen; simp; omega
  have q1 := inPairs true p found
  have q2 := eqPairs (ps.filter fun o => !decide (o = p) && inP p o) []
  have he : decide ((ps.filter fun o => !decide (o = p) && inP p o) = []) = (ps.filter fun o => !decide (o = p) && inP p o).isEmpty := by
    rw [Bool.eq_iff_iff]; simp
  rw [he] at q2
  have e0 : ([] : List PP).map tupP = [] := rfl
  rw [e0] at q2
  unfold lawStep
  have c2 := compO2 (.lst (ps.map tupP)) found p true (.ow true (.lst ((ps.filter fun o => !decide (o = p) && inP p o).map tupP))) x4
  generalize hO : ps.filter (fun o => !decide (o = p) && inP p o) = O at c1 k1 q2 c2 ⊢
  cases hc : (!decide (p ∈ found) && O.isEmpty) with
  | false =>
    refine ⟨.ow true (.lst (O.map tupP)), x4, ?_, rfl, h4⟩
    simp only [Bool.false_eq_true, if_false]
    generalize ps.map tupP = G at c1 ⊢
    generalize found.map tupP = F at c1 q1 ⊢
    generalize O.map tupP = OO at c1 k1 q2 ⊢
    generalize tupP p = V at c1 q1 ⊢
    cases hp : decide (p ∈ found) with
    | true =>
      rw [hp] at q1
      simp [bW, mCompL, c1, k1, q1, q2, h3, mC, mVar, mHs, mV, FL.m2, m2H, FL.m1, m1H, mNil, mCons, mMk, mTb, mTNot, mTAnd, mTOr, mTru, mAnd, mOr, mIf, mChain, sSeq, sNil, sIf, sRet, sDrop, sAsg, gSet, gSets, gUn, lentS_un, lentS_sh, lentS_owt, deref, gI, gB, gNeg, gNot, gTupD, gLstD, szOk, truD, cMod, cDiv, mkFn, mkFnO, endF, FL.cut, FL.cutS, mCall, mCallO, mCallK, sOwn, sRetO, sRetV, gIx, gDGet, keyD, getK, putKD, sDPutD, mDispN, mDicN, gAdd, gMul, gSl, mPn, mPs, mSl, cutA, HT.sIx, gMin2, gMax2, gList, gTuple, gLen, gIsi, isObjD, kindN, isiB, sForL, sForT, sForR, itemsD, rgOk, sPar, cond_true, cond_false, sizeLine_eq, sAppend, mPop]
    | false =>
      rw [hp] at q1 hc
      have hc' : O.isEmpty = false := by simpa using hc
      rw [hc'] at q2
      simp [bW, mCompL, c1, k1, q1, q2, h3, mC, mVar, mHs, mV, FL.m2, m2H, FL.m1, m1H, mNil, mCons, mMk, mTb, mTNot, mTAnd, mTOr, mTru, mAnd, mOr, mIf, mChain, sSeq, sNil, sIf, sRet, sDrop, sAsg, gSet, gSets, gUn, lentS_un, lentS_sh, lentS_owt, deref, gI, gB, gNeg, gNot, gTupD, gLstD, szOk, truD, cMod, cDiv, mkFn, mkFnO, endF, FL.cut, FL.cutS, mCall, mCallO, mCallK, sOwn, sRetO, sRetV, gIx, gDGet, keyD, getK, putKD, sDPutD, mDispN, mDicN, gAdd, gMul, gSl, mPn, mPs, mSl, cutA, HT.sIx, gMin2, gMax2, gList, gTuple, gLen, gIsi, isObjD, kindN, isiB, sForL, sForT, sForR, itemsD, rgOk, sPar, cond_true, cond_false, sizeLine_eq, sAppend, mPop]
  | true =>
    obtain ⟨hc1, hc2⟩ := Bool.and_eq_true_iff.mp hc
    have hp : decide (p ∈ found) = false := by simpa using hc1
    rw [hp] at q1
    rw [hc2] at q2
    simp only [if_true]
    refine ⟨.ow true (.lst (O.map tupP)), .sh (.int (found.filter fun o => decide (o.1 < p.1)).length), ?_, rfl, rfl⟩
    have hi : (lawIn found p).map tupP = (found.map tupP).take (found.filter fun o => decide (o.1 < p.1)).length ++ ([tupP p] ++ (found.map tupP).drop (found.filter fun o => decide (o.1 < p.1)).length) := by
      simp [lawIn, List.map_append, List.map_take, List.map_drop]
    rw [hi]
    have hn : ((found.filter fun o => decide (o.1 < p.1)).map tupP).length = (found.filter fun o => decide (o.1 < p.1)).length := by simp
    have hF : (found.map tupP).length < 900 := by simpa using hf
    generalize hN : (found.filter fun o => decide (o.1 < p.1)).length = n at hn hlf ⊢
    have hz : (n : Int) < 1000000 := by omega
    generalize (found.filter fun o => decide (o.1 < p.1)).map tupP = FF at c2 k2 hn
    generalize ps.map tupP = G at c1 c2 ⊢
    generalize found.map tupP = F at c1 q1 c2 hF ⊢
    generalize O.map tupP = OO at c1 k1 q2 c2 ⊢
    generalize tupP p = V at c1 q1 c2 ⊢
    have hF' : F.length < 1000000 := by omega
    rw [hn] at k2
    simp [bW, mCompL, mCompH, c1, k1, q1, q2, c2, k2, hn, hz, hF', h3, h4, sInsert, mC, mVar, mHs, mV, FL.m2, m2H, FL.m1, m1H, mNil, mCons, mMk, mTb, mTNot, mTAnd, mTOr, mTru, mAnd, mOr, mIf, mChain, sSeq, sNil, sIf, sRet, sDrop, sAsg, gSet, gSets, gUn, lentS_un, lentS_sh, lentS_owt, deref, gI, gB, gNeg, gNot, gTupD, gLstD, szOk, truD, cMod, cDiv, mkFn, mkFnO, endF, FL.cut, FL.cutS, mCall, mCallO, mCallK, sOwn, sRetO, sRetV, gIx, gDGet, keyD, getK, putKD, sDPutD, mDispN, mDicN, gAdd, gMul, gSl, mPn, mPs, mSl, cutA, HT.sIx, gMin2, gMax2, gList, gTuple, gLen, gIsi, isObjD, kindN, isiB, sForL, sForT, sForR, itemsD, rgOk, sPar, cond_true, cond_false, sizeLine_eq, sAppend, mPop]
theorem loopW (ps : List PP) (hl : ps.length < 400) : ∀ (l found : List PP) (x2 x3 x4 : Sl), lentS x2 = false → lentS x3 = false → lentS x4 = false → found.length + l.length < 800 →
    ∃ y2 y3 y4, loopF (gSet 2) bW (l.map tupP) [.sh (.lst (ps.map tupP)), .ow true (.lst (found.map tupP)), x2, x3, x4, .un] = some (.nx [.sh (.lst (ps.map tupP)), .ow true (.lst ((l.foldl (lawStep ps) found).map tupP)), y2, y3, y4, .un])
  | [], found, x2, x3, x4, _, _, _, _ => ⟨x2, x3, x4, rfl⟩
  | p :: l, found, x2, x3, x4, h2, h3, h4, hz => by
    simp only [List.length_cons] at hz
    obtain ⟨y3, y4, q, k3, k4⟩ := turnW ps found p x3 x4 h3 h4 (by omega) (by omega)
    have hs : (lawStep ps found p).length ≤ found.length + 1 := by
      unfold lawStep
      split
      · unfold lawIn
        simp [List.length_take, List.length_drop]
        omega
      · omega
    obtain ⟨z2, z3, z4, ih⟩ := loopW ps hl l (lawStep ps found p) (.sh (tupP p)) y3 y4 rfl k3 k4 (by omega)
    refine ⟨z2, z3, z4, ?_⟩
    rw [List.map_cons]
    unfold loopF
    have e1 : gSet 2 (tupP p) [.sh (.lst (ps.map tupP)), .ow true (.lst (found.map tupP)), x2, x3, x4, .un] = some [.sh (.lst (ps.map tupP)), .ow true (.lst (found.map tupP)), .sh (tupP p), x3, x4, .un] := by simp [gSet, h2]
    rw [e1]
    show (match bW [.sh (.lst (ps.map tupP)), .ow true (.lst (found.map tupP)), .sh (tupP p), x3, x4, .un] with
      | some (.nx e2) => loopF (gSet 2) bW (l.map tupP) e2
      | some (.ct e2) => loopF (gSet 2) bW (l.map tupP) e2
      | some (.bk e2) => some (.nx e2)
      | some (.rt d e2) => some (.rt d e2)
      | some (.ro d e2) => some (.ro d e2)
      | none => none) = _
    rw [q]
    exact ih
theorem law_corners (ps : List PP) (hl : ps.length < 400) : F__law_corners [.sh (.lst (ps.map tupP))] = some (.lst ((corn ps).map tupP), [.un]) := by
  have eb : B__law_corners = sSeq (sOwn 1 (mMk gLstD mNil)) (sSeq (sForL (mVar 0) (gSet 2) bW) (sRet (mVar 1))) := rfl
  obtain ⟨y2, y3, y4, q⟩ := loopW ps hl ps [] .un .un .un rfl rfl rfl (by simp; omega)
  rw [show ps.foldl (lawStep ps) [] = corn ps from lawC_eq ps] at q
  have e0 : ([] : List PP).map tupP = [] := rfl
  rw [e0] at q
  generalize (corn ps).map tupP = R at q ⊢
  generalize ps.map tupP = G at q ⊢
  generalize bW = W at q eb
  unfold F__law_corners
  rw [eb]
  simp [q, mC, mVar, mHs, mV, FL.m2, m2H, FL.m1, m1H, mNil, mCons, mMk, mTb, mTNot, mTAnd, mTOr, mTru, mAnd, mOr, mIf, mChain, sSeq, sNil, sIf, sRet, sDrop, sAsg, gSet, gSets, gUn, lentS_un, lentS_sh, lentS_owt, deref, gI, gB, gNeg, gNot, gTupD, gLstD, szOk, truD, cMod, cDiv, mkFn, mkFnO, endF, FL.cut, FL.cutS, mCall, mCallO, mCallK, sOwn, sRetO, sRetV, gIx, gDGet, keyD, getK, putKD, sDPutD, mDispN, mDicN, gAdd, gMul, gSl, mPn, mPs, mSl, cutA, HT.sIx, gMin2, gMax2, gList, gTuple, gLen, gIsi, isObjD, kindN, isiB, sForL, sForT, sForR, itemsD, rgOk, sPar, cond_true, cond_false, sizeLine_eq, sAppend, mPop]
end PL

namespace PL
open PySem PySem.Spec PyProof.Rows L2 FL
set_option maxRecDepth 100000
set_option maxHeartbeats 8000000
set_option linter.all false
/-! ### what a staircase tells of itself -/
def So (c : List PP) : D := .obj "Stairs" [("_corners", .lst (c.map tupP))]
theorem st_so (ps : List PP) : St ps = So (corn ps) := rfl
theorem fld (c : List PP) : gFld "Stairs" "_corners" (So c) = some (.lst (c.map tupP)) := by simp [FL.gFld, So]
theorem p_corners (c : List PP) (h : c.length ≤ 1000) : F_Stairs__corners [.sh (So c)] = some (.lst (c.map tupP), [.un]) := by
  have q : compF [1, 2] (gUn ([1, 2].map gSet)) mYes (mTup (mCons (mVar 1) (mCons (mVar 2) mNil))) (c.map tupP) [.sh (So c), .un, .un] = some ((c.filter fun _ => true).map tupP, [.sh (So c), .un, .un]) := by
    refine comp_map (by simp [lend_nil, lend_cons, lendS_sh, lendS_un, lendS_ow, backCS_lendS, backCS_sh, backCS_un, backCS_ow, backC_nil, backC_cons, isOw_un, isOw_sh, wipeE, freeE]) c fun o _ => ⟨?_⟩
    generalize So c = A
    refine ⟨[.sh A, .sh (.int o.1), .sh (.int o.2)], [.sh A, .sh (.int o.1), .sh (.int o.2)], ?_, ?_, ?_, fun _ => ⟨[.sh A, .sh (.int o.1), .sh (.int o.2)], ?_, ?_⟩⟩
    · simp [gUn, gSets, gSet, lentS_un, lentS_sh, tupP, lend_nil, lend_cons, lendS_sh, lendS_un, lendS_ow, backCS_lendS, backCS_sh, backCS_un, backCS_ow, backC_nil, backC_cons, isOw_un, isOw_sh, wipeE, freeE]
    · simp [mYes]
    · simp [lend_nil, lend_cons, lendS_sh, lendS_un, lendS_ow, backCS_lendS, backCS_sh, backCS_un, backCS_ow, backC_nil, backC_cons, isOw_un, isOw_sh, wipeE, freeE]
    · simp [tupP, mC, mVar, mHs, mV, FL.m2, m2H, FL.m1, m1H, mNil, mCons, mMk, mTb, mTNot, mTAnd, mTOr, mTru, mAnd, mOr, mIf, mChain, sSeq, sNil, sIf, sRet, sDrop, sAsg, gSet, gSets, gUn, lentS_un, lentS_sh, lentS_owt, deref, gI, gB, gNeg, gNot, gTupD, gLstD, szOk, truD, cMod, cDiv, mkFn, mkFnO, endF, FL.cut, FL.cutS, mCall, mCallO, mCallK, sOwn, sRetO, sRetV, gIx, gDGet, keyD, getK, putKD, sDPutD, mDispN, mDicN, gAdd, gMul, gSl, mPn, mPs, mSl, cutA, HT.sIx, gMin2, gMax2, gList, gTuple, gLen, gIsi, isObjD, kindN, isiB, sForL, sForT, sForR, itemsD, rgOk, sPar, cond_true, cond_false, sizeLine_eq, sAppend, mPop]
    · simp [lend_nil, lend_cons, lendS_sh, lendS_un, lendS_ow, backCS_lendS, backCS_sh, backCS_un, backCS_ow, backC_nil, backC_cons, isOw_un, isOw_sh, wipeE, freeE]
  rw [List.filter_eq_self.mpr (fun _ _ => rfl)] at q
  have k : cLen (c.map tupP).length = true := by unfold cLen; simp; omega
  have hf := fld c
  generalize So c = A at q hf ⊢
  generalize c.map tupP = G at q k hf ⊢
  have eb : B_Stairs__corners = sRetO (mCompL (m1H (gFld "Stairs" "_corners") (mHs 0)) (gUn ([1, 2].map gSet)) mYes (mTup (mCons (mVar 1) (mCons (mVar 2) mNil))) [1, 2]) := rfl
  unfold F_Stairs__corners
  rw [eb]
  generalize gUn ([1, 2].map gSet) = g at q ⊢
  generalize mTup (mCons (mVar 1) (mCons (mVar 2) mNil)) = el at q ⊢
  simp [mCompL, hf, q, k, mC, mVar, mHs, mV, FL.m2, m2H, FL.m1, m1H, mNil, mCons, mMk, mTb, mTNot, mTAnd, mTOr, mTru, mAnd, mOr, mIf, mChain, sSeq, sNil, sIf, sRet, sDrop, sAsg, gSet, gSets, gUn, lentS_un, lentS_sh, lentS_owt, deref, gI, gB, gNeg, gNot, gTupD, gLstD, szOk, truD, cMod, cDiv, mkFn, mkFnO, endF, FL.cut, FL.cutS, mCall, mCallO, mCallK, sOwn, sRetO, sRetV, gIx, gDGet, keyD, getK, putKD, sDPutD, mDispN, mDicN, gAdd, gMul, gSl, mPn, mPs, mSl, cutA, HT.sIx, gMin2, gMax2, gList, gTuple, gLen, gIsi, isObjD, kindN, isiB, sForL, sForT, sForR, itemsD, rgOk, sPar, cond_true, cond_false, sizeLine_eq, sAppend, mPop]
theorem p_len (c : List PP) : F_Stairs____len__ [.sh (So c)] = some (.int c.length, [.un]) := by
  have hf := fld c
  have hl : (c.map tupP).length = c.length := by simp
  generalize So c = A at hf ⊢
  generalize c.map tupP = G at hf hl
  simp [F_Stairs____len__, B_Stairs____len__, hf, hl, mC, mVar, mHs, mV, FL.m2, m2H, FL.m1, m1H, mNil, mCons, mMk, mTb, mTNot, mTAnd, mTOr, mTru, mAnd, mOr, mIf, mChain, sSeq, sNil, sIf, sRet, sDrop, sAsg, gSet, gSets, gUn, lentS_un, lentS_sh, lentS_owt, deref, gI, gB, gNeg, gNot, gTupD, gLstD, szOk, truD, cMod, cDiv, mkFn, mkFnO, endF, FL.cut, FL.cutS, mCall, mCallO, mCallK, sOwn, sRetO, sRetV, gIx, gDGet, keyD, getK, putKD, sDPutD, mDispN, mDicN, gAdd, gMul, gSl, mPn, mPs, mSl, cutA, HT.sIx, gMin2, gMax2, gList, gTuple, gLen, gIsi, isObjD, kindN, isiB, sForL, sForT, sForR, itemsD, rgOk, sPar, cond_true, cond_false, sizeLine_eq, sAppend, mPop]
theorem p_bool (c : List PP) : F_Stairs____bool__ [.sh (So c)] = some (.bl (!c.isEmpty), [.un]) := by
  have hf := fld c
  have hl : (c.map tupP).isEmpty = c.isEmpty := by cases c <;> rfl
  generalize So c = A at hf ⊢
  generalize c.map tupP = G at hf hl
  simp [F_Stairs____bool__, B_Stairs____bool__, hf, hl, gBoolL, mC, mVar, mHs, mV, FL.m2, m2H, FL.m1, m1H, mNil, mCons, mMk, mTb, mTNot, mTAnd, mTOr, mTru, mAnd, mOr, mIf, mChain, sSeq, sNil, sIf, sRet, sDrop, sAsg, gSet, gSets, gUn, lentS_un, lentS_sh, lentS_owt, deref, gI, gB, gNeg, gNot, gTupD, gLstD, szOk, truD, cMod, cDiv, mkFn, mkFnO, endF, FL.cut, FL.cutS, mCall, mCallO, mCallK, sOwn, sRetO, sRetV, gIx, gDGet, keyD, getK, putKD, sDPutD, mDispN, mDicN, gAdd, gMul, gSl, mPn, mPs, mSl, cutA, HT.sIx, gMin2, gMax2, gList, gTuple, gLen, gIsi, isObjD, kindN, isiB, sForL, sForT, sForR, itemsD, rgOk, sPar, cond_true, cond_false, sizeLine_eq, sAppend, mPop]
theorem p_eq (c d : List PP) : F_Stairs____eq__ [.sh (So c), .sh (So d)] = some (.bl (decide (c = d)), [.un, .un]) := by
  have h1 := fld c
  have h2 := fld d
  have h3 : gIsiO "Stairs" (So d) = some (.bl true) := by simp [gIsiO, So]
  have h4 := eqPairs c d
  generalize So c = A at h1 ⊢
  generalize So d = B at h2 h3 ⊢
  generalize c.map tupP = G at h1 h4
  generalize d.map tupP = G2 at h2 h4
  simp [F_Stairs____eq__, B_Stairs____eq__, h1, h2, h3, h4, mC, mVar, mHs, mV, FL.m2, m2H, FL.m1, m1H, mNil, mCons, mMk, mTb, mTNot, mTAnd, mTOr, mTru, mAnd, mOr, mIf, mChain, sSeq, sNil, sIf, sRet, sDrop, sAsg, gSet, gSets, gUn, lentS_un, lentS_sh, lentS_owt, deref, gI, gB, gNeg, gNot, gTupD, gLstD, szOk, truD, cMod, cDiv, mkFn, mkFnO, endF, FL.cut, FL.cutS, mCall, mCallO, mCallK, sOwn, sRetO, sRetV, gIx, gDGet, keyD, getK, putKD, sDPutD, mDispN, mDicN, gAdd, gMul, gSl, mPn, mPs, mSl, cutA, HT.sIx, gMin2, gMax2, gList, gTuple, gLen, gIsi, isObjD, kindN, isiB, sForL, sForT, sForR, itemsD, rgOk, sPar, cond_true, cond_false, sizeLine_eq, sAppend, mPop]
theorem p_eq_no (c : List PP) (d : D) (h : isObjD d = false) : F_Stairs____eq__ [.sh (So c), .sh d] = some (.bl false, [.un, .un]) := by
  have h3 : gIsiO "Stairs" d = some (.bl false) := by cases d <;> first | rfl | (cases h; done)
  generalize So c = A
  simp [F_Stairs____eq__, B_Stairs____eq__, h3, mC, mVar, mHs, mV, FL.m2, m2H, FL.m1, m1H, mNil, mCons, mMk, mTb, mTNot, mTAnd, mTOr, mTru, mAnd, mOr, mIf, mChain, sSeq, sNil, sIf, sRet, sDrop, sAsg, gSet, gSets, gUn, lentS_un, lentS_sh, lentS_owt, deref, gI, gB, gNeg, gNot, gTupD, gLstD, szOk, truD, cMod, cDiv, mkFn, mkFnO, endF, FL.cut, FL.cutS, mCall, mCallO, mCallK, sOwn, sRetO, sRetV, gIx, gDGet, keyD, getK, putKD, sDPutD, mDispN, mDicN, gAdd, gMul, gSl, mPn, mPs, mSl, cutA, HT.sIx, gMin2, gMax2, gList, gTuple, gLen, gIsi, isObjD, kindN, isiB, sForL, sForT, sForR, itemsD, rgOk, sPar, cond_true, cond_false, sizeLine_eq, sAppend, mPop]
/-! the text -/
noncomputable def tp (p : PP) : Str := ((Str.empty ++ (Str.ofString (toString p.1))) ++ (Str.ofString " ")) ++ (Str.ofString (toString p.2))
noncomputable def txt (c : List PP) : Str := Txt.join (Str.ofString ", ") (c.map tp)
def smI2 (p : PP) : Prop := p.1.natAbs < 10 ^ 60 ∧ p.2.natAbs < 10 ^ 60
theorem intOk_of {i : Int} (h : i.natAbs < 10 ^ 60) : intOk i = true := by
  refine chk_yes (log2_small ?_)
  exact Nat.lt_of_lt_of_le h (Nat.le_trans (by decide : 10 ^ 60 ≤ 2 ^ 200) (Nat.pow_le_pow_right (by decide) (by decide)))
theorem ts_len {i : Int} (h : i.natAbs < 10 ^ 60) : (Str.ofString (toString i)).length ≤ 61 := by
  rw [PySem.ofString_length]
  exact int_text_length_le10 (k := 60) (by decide) h
theorem tp_len {p : PP} (h : smI2 p) : (tp p).length ≤ 123 := by
  have a := ts_len h.1
  have b := ts_len h.2
  unfold tp
  rw [Str.length_append, Str.length_append, Str.length_append]
  have e : Str.empty.length = 0 := rfl
  have e2 : (Str.ofString " ").length = 1 := by rw [PySem.ofString_length]; rfl
  omega
theorem strs_map : ∀ xs : List Str, strsD (xs.map D.str) = some xs
  | [] => rfl
  | x :: xs => by
    show (match strsD (xs.map D.str) with
      | some xs => some (x :: xs)
      | none => none) = _
    rw [strs_map xs]
theorem js_ok (A : D) (p : PP) (h : smI2 p) : mJs [(m1 gFmt (mVar 1)), (mC (.str " ")), (m1 gFmt (mVar 2))] Str.empty [.sh A, .sh (.int p.1), .sh (.int p.2)] = some (.str (tp p), [.sh A, .sh (.int p.1), .sh (.int p.2)]) := by
  have a := ts_len h.1
  have b := ts_len h.2
  have e : Str.empty.length = 0 := rfl
  have e2 : (Str.ofString " ").length = 1 := by rw [PySem.ofString_length]; rfl
  have l1 : (Str.empty ++ (Str.ofString (toString p.1))).length ≤ sizeLine := by
    rw [Str.length_append]; exact Nat.le_trans (by omega : _ ≤ 1000) (by decide)
  have l2 : ((Str.empty ++ (Str.ofString (toString p.1))) ++ (Str.ofString " ")).length ≤ sizeLine := by
    rw [Str.length_append, Str.length_append]; exact Nat.le_trans (by omega : _ ≤ 1000) (by decide)
  have l3 : (tp p).length ≤ sizeLine := Nat.le_trans (tp_len h) (by decide)
  have f1 : gFmt (.int p.1) = some (.str (Str.ofString (toString p.1))) := by
    show (bif intOk p.1 then some (D.str (Str.ofString (toString p.1))) else none) = _
    rw [intOk_of h.1]; rfl
  have f2 : gFmt (.int p.2) = some (.str (Str.ofString (toString p.2))) := by
    show (bif intOk p.2 then some (D.str (Str.ofString (toString p.2))) else none) = _
    rw [intOk_of h.2]; rfl
  unfold mJs
  simp only [FL.m1, mVar, List.getElem?_cons_zero, List.getElem?_cons_succ, f1]
  rw [if_pos l1]
  unfold mJs
  simp only [mC]
  rw [if_pos l2]
  unfold mJs
  simp only [FL.m1, mVar, List.getElem?_cons_zero, List.getElem?_cons_succ, f2]
  rw [if_pos (show ((Str.empty ++ (Str.ofString (toString p.1))) ++ (Str.ofString " ") ++ (Str.ofString (toString p.2))).length ≤ sizeLine from l3)]
  rfl
theorem hsum : ∀ l : List PP, (∀ p ∈ l, smI2 p) → ((l.map tp).map (·.length)).sum ≤ l.length * 123
  | [], _ => by simp
  | p :: l, hp => by
    have i := hsum l fun q hq => hp q (List.mem_cons_of_mem _ hq)
    have j := tp_len (hp p List.mem_cons_self)
    simp only [List.map_cons, List.sum_cons, List.length_cons]
    omega
theorem p_text (c : List PP) (h : c.length ≤ 1000) (hs : ∀ p ∈ c, smI2 p) : F_Stairs__text [.sh (So c)] = some (.str (txt c), [.un]) := by
  have q : compF [1, 2] (gUn ([1, 2].map gSet)) mYes (mJs [(m1 gFmt (mVar 1)), (mC (.str " ")), (m1 gFmt (mVar 2))] Str.empty) (c.map tupP) [.sh (So c), .un, .un] = some ((c.filter fun _ => true).map (fun p => .str (tp p)), [.sh (So c), .un, .un]) := by
    refine comp_map (by simp [lend_nil, lend_cons, lendS_sh, lendS_un, lendS_ow, backCS_lendS, backCS_sh, backCS_un, backCS_ow, backC_nil, backC_cons, isOw_un, isOw_sh, wipeE, freeE]) c fun o ho => ⟨?_⟩
    have hj := js_ok (So c) o (hs o ho)
    generalize So c = A at hj ⊢
    refine ⟨[.sh A, .sh (.int o.1), .sh (.int o.2)], [.sh A, .sh (.int o.1), .sh (.int o.2)], ?_, ?_, ?_, fun _ => ⟨[.sh A, .sh (.int o.1), .sh (.int o.2)], hj, ?_⟩⟩
    · simp [gUn, gSets, gSet, lentS_un, lentS_sh, tupP, lend_nil, lend_cons, lendS_sh, lendS_un, lendS_ow, backCS_lendS, backCS_sh, backCS_un, backCS_ow, backC_nil, backC_cons, isOw_un, isOw_sh, wipeE, freeE]
    · simp [mYes]
    · simp [lend_nil, lend_cons, lendS_sh, lendS_un, lendS_ow, backCS_lendS, backCS_sh, backCS_un, backCS_ow, backC_nil, backC_cons, isOw_un, isOw_sh, wipeE, freeE]
    · simp [lend_nil, lend_cons, lendS_sh, lendS_un, lendS_ow, backCS_lendS, backCS_sh, backCS_un, backCS_ow, backC_nil, backC_cons, isOw_un, isOw_sh, wipeE, freeE]
  rw [List.filter_eq_self.mpr (fun _ _ => rfl)] at q
  have em : c.map (fun p => D.str (tp p)) = (c.map tp).map D.str := by simp
  rw [em] at q
  have k : cLen ((c.map tp).map D.str).length = true := by unfold cLen; simp; omega
  have hj : gJoin (.str ", ") (.lst ((c.map tp).map D.str)) = some (.str (txt c)) := by
    show (match strsD ((c.map tp).map D.str) with
      | some ys => bif joinFit (Str.ofString ", ") ys then some (D.str (Txt.join (Str.ofString ", ") ys)) else none
      | none => none) = _
    rw [strs_map]
    have hfit : joinFit (Str.ofString ", ") (c.map tp) = true := by
      unfold joinFit
      rw [decide_eq_true_eq]
      have := hsum c hs
      have e2 : (Str.ofString ", ").length = 2 := by rw [PySem.ofString_length]; rfl
      rw [List.length_map, e2]
      omega
    show (bif joinFit (Str.ofString ", ") (c.map tp) then some (D.str (Txt.join (Str.ofString ", ") (c.map tp))) else none) = _
    rw [hfit]
    rfl
  have hf := fld c
  generalize So c = A at q hf ⊢
  generalize c.map tupP = G at q hf
  generalize (c.map tp).map D.str = GS at q k hj
  have eb : B_Stairs__text = sRet (m2 gJoin (mC (.str ", ")) (mCompL (m1H (gFld "Stairs" "_corners") (mHs 0)) (gUn ([1, 2].map gSet)) mYes (mJs [(m1 gFmt (mVar 1)), (mC (.str " ")), (m1 gFmt (mVar 2))] Str.empty) [1, 2])) := rfl
  unfold F_Stairs__text
  rw [eb]
  generalize gUn ([1, 2].map gSet) = g at q ⊢
  generalize mJs [(m1 gFmt (mVar 1)), (mC (.str " ")), (m1 gFmt (mVar 2))] Str.empty = el at q ⊢
  simp [mCompL, hf, q, k, hj, mC, mVar, mHs, mV, FL.m2, m2H, FL.m1, m1H, mNil, mCons, mMk, mTb, mTNot, mTAnd, mTOr, mTru, mAnd, mOr, mIf, mChain, sSeq, sNil, sIf, sRet, sDrop, sAsg, gSet, gSets, gUn, lentS_un, lentS_sh, lentS_owt, deref, gI, gB, gNeg, gNot, gTupD, gLstD, szOk, truD, cMod, cDiv, mkFn, mkFnO, endF, FL.cut, FL.cutS, mCall, mCallO, mCallK, sOwn, sRetO, sRetV, gIx, gDGet, keyD, getK, putKD, sDPutD, mDispN, mDicN, gAdd, gMul, gSl, mPn, mPs, mSl, cutA, HT.sIx, gMin2, gMax2, gList, gTuple, gLen, gIsi, isObjD, kindN, isiB, sForL, sForT, sForR, itemsD, rgOk, sPar, cond_true, cond_false, sizeLine_eq, sAppend, mPop]
end PL

namespace PL
open PySem PySem.Spec PyProof.Rows L2 FL
set_option maxRecDepth 100000
set_option maxHeartbeats 8000000
set_option linter.all false
/-! ### small facts of corners, of what is shown -/
theorem fold_len : ∀ (l rev : List PP), (l.foldl pushC rev).length ≤ rev.length + l.length
  | [], rev => by simp
  | p :: l, rev => by
    have a := fold_len l (pushC rev p)
    have b := push_len rev p
    rw [List.foldl_cons, List.length_cons]
    omega
theorem corn_len (ps : List PP) : (corn ps).length ≤ ps.length := by
  unfold corn cornR
  rw [List.length_reverse]
  have := fold_len (sortP ps) []
  rw [(sortP_perm ps).length_eq] at this
  simpa using this
/-- corners as they come -/
structure OkC (c : List PP) : Prop where
  asc : Asc c
  len : c.length ≤ 1000
  pr : ∀ p ∈ c, Pr p
theorem okC_corn {ps : List PP} (h : ps.length ≤ 1000) (hp : ∀ p ∈ ps, Pr p) : OkC (corn ps) := ⟨corn_asc ps, Nat.le_trans (corn_len ps) h, fun p q => hp p ((corn_mem ps p).mp q).1⟩
theorem sm_of {p : PP} (h : Pr p) : smI2 p := by
  obtain ⟨a, b, c⟩ := h
  exact ⟨smI (by omega) (by omega), smI (by omega) (by omega)⟩
theorem OkC.sm {c : List PP} (h : OkC c) : ∀ p ∈ c, smI2 p := fun p hp => sm_of (h.pr p hp)
theorem rp_pairs {c : List PP} (h : c.length ≤ 1000) (hs : ∀ p ∈ c, smI2 p) : Rp (.lst (c.map tupP)) := by
  have key : ∀ l : List PP, (∀ p ∈ l, smI2 p) → smDs (l.map tupP) ∧ bkDs (l.map tupP) = 3 * l.length ∧ dpDs (l.map tupP) ≤ 1 := fun l => by
    induction l with
    | nil => intro _; exact ⟨by simp [smDs], by simp [bkDs], by simp [dpDs]⟩
    | cons p l ih =>
      intro hp
      obtain ⟨a, b, c⟩ := ih fun q hq => hp q (List.mem_cons_of_mem _ hq)
      obtain ⟨h1, h2⟩ := hp p List.mem_cons_self
      refine ⟨?_, ?_, ?_⟩
      · rw [List.map_cons]
        show smD (tupP p) ∧ smDs (l.map tupP)
        exact ⟨⟨h1, h2, trivial⟩, a⟩
      · rw [List.map_cons]
        show bkD (tupP p) + 1 + bkDs (l.map tupP) = _
        have : bkD (tupP p) = 2 := rfl
        rw [this, b, List.length_cons]
        omega
      · exact dpDs_pairs (p :: l)
  obtain ⟨a, b, d⟩ := key c hs
  refine ⟨a, ?_, ?_⟩
  · show bkDs (c.map tupP) ≤ 100000
    omega
  · show dpDs (c.map tupP) + 1 ≤ 60
    omega
theorem rB (b : Bool) : gRepr (.bl b) = some (.str (shT (.bl b))) := rp_ok ⟨by simp [smD], by simp [bkD], by simp [dpD]⟩
theorem rI (i : Int) (h : i.natAbs < 10 ^ 60) : gRepr (.int i) = some (.str (shT (.int i))) := rp_ok ⟨by simpa [smD] using h, by simp [bkD], by simp [dpD]⟩
theorem neBB (a b : Bool) : gNe (.bl a) (.bl b) = some (.bl (!decide (a = b))) := by
  rw [gNe_ok false rfl rfl (by simp [dpD]) (by simp [dpD])]
  congr 3
  rw [Bool.eq_iff_iff, FL.same_iff]
  simp
theorem eqBB (a b : Bool) : gEq (.bl a) (.bl b) = some (.bl (decide (a = b))) := by
  rw [gEq_ok false rfl rfl (by simp [dpD]) (by simp [dpD])]
  congr 2
  rw [Bool.eq_iff_iff, FL.same_iff]
  simp
/-- the empty staircase -/
theorem made0 : F_Stairs____init__ [.ow false (.obj "Stairs" []), .sh (.tup [])] = some (.non, [.ow false (So []), .un]) := by
  have q := init [] (by simp) (fun _ h => by cases h)
  have e : corn [] = [] := by rw [← lawC_eq]; rfl
  rw [st_so, e] at q
  exact q
end PL

namespace PL
open PySem PySem.Spec PyProof.Rows L2 FL
set_option maxRecDepth 100000
set_option maxHeartbeats 8000000
set_option linter.all false
/-! ### what two staircases share -/
def shareF : List PP → List PP → List PP
  | [], _ => []
  | _ :: _, [] => []
  | a :: as, b :: bs => if a.1 ≤ b.1 then (a.1, max a.2 b.2) :: shareF as (b :: bs) else (b.1, max a.2 b.2) :: shareF (a :: as) bs
  termination_by l m => l.length + m.length
theorem share_nil (m : List PP) : shareF [] m = [] := by unfold shareF; rfl
theorem share_nil2 (l : List PP) : shareF l [] = [] := by cases l <;> (unfold shareF; rfl)
theorem share_cons (a b : PP) (as bs : List PP) : shareF (a :: as) (b :: bs) = if a.1 ≤ b.1 then (a.1, max a.2 b.2) :: shareF as (b :: bs) else (b.1, max a.2 b.2) :: shareF (a :: as) bs := by
  rw [shareF]
theorem has_nil (v : PP) : Has [] v ↔ False := ⟨fun ⟨_, h, _⟩ => (by cases h), False.elim⟩
theorem has_cons (q : PP) (l : List PP) (v : PP) : Has (q :: l) v ↔ (v.1 ≤ q.1 ∧ q.2 ≤ v.2) ∨ Has l v :=
  ⟨fun ⟨r, hr, h⟩ => (List.mem_cons.mp hr).elim (fun e => .inl (e ▸ h)) (fun hr => .inr ⟨r, hr, h⟩), fun h => h.elim (fun h => ⟨q, List.mem_cons_self, h⟩) (fun ⟨r, hr, h⟩ => ⟨r, List.mem_cons_of_mem _ hr, h⟩)⟩
theorem has_app (l m : List PP) (v : PP) : Has (l ++ m) v ↔ Has l v ∨ Has m v := by
  induction l with
  | nil => simp [has_nil]
  | cons a l ih => rw [List.cons_append, has_cons, has_cons, ih, or_assoc]
theorem asc_le {a : PP} {l : List PP} (h : Asc (a :: l)) {v : PP} (hv : Has l v) : a.2 ≤ v.2 := by
  obtain ⟨q, hq, _, h2⟩ := hv
  have := (List.pairwise_cons.mp h).1 q hq
  omega
theorem asc_tl {a : PP} {l : List PP} (h : Asc (a :: l)) : Asc l := (List.pairwise_cons.mp h).2
theorem share_has : ∀ (n : Nat) (l m : List PP), l.length + m.length ≤ n → Asc l → Asc m → ∀ v, Has (shareF l m) v ↔ Has l v ∧ Has m v
  | _, [], m, _, _, _, v => by rw [share_nil]; simp [has_nil]
  | _, a :: as, [], _, _, _, v => by rw [share_nil2]; simp [has_nil]
  | 0, a :: as, b :: bs, h, _, _, v => by simp at h
  | n + 1, a :: as, b :: bs, h, h1, h2, v => by
    rw [share_cons]
    simp only [List.length_cons] at h
    by_cases c : a.1 ≤ b.1
    · rw [if_pos c, has_cons, share_has n as (b :: bs) (by simp; omega) (asc_tl h1) h2 v]
      have k1 := @asc_le a as h1 v
      have k2 := @asc_le b bs h2 v
      simp only [has_cons]
      constructor
      · rintro (⟨x, y⟩ | ⟨x, y⟩)
        · have hy : a.2 ≤ v.2 ∧ b.2 ≤ v.2 := by
            have := Int.le_max_left a.2 b.2
            have := Int.le_max_right a.2 b.2
            constructor <;> omega
          exact ⟨.inl ⟨x, hy.1⟩, .inl ⟨Int.le_trans x c, hy.2⟩⟩
        · exact ⟨.inr x, y⟩
      · rintro ⟨x | x, y⟩
        · refine .inl ⟨x.1, ?_⟩
          have : b.2 ≤ v.2 := y.elim (fun z => z.2) k2
          omega
        · exact .inr ⟨x, y⟩
    · rw [if_neg c, has_cons, share_has n (a :: as) bs (by simp; omega) h1 (asc_tl h2) v]
      have k1 := @asc_le a as h1 v
      have k2 := @asc_le b bs h2 v
      simp only [has_cons]
      constructor
      · rintro (⟨x, y⟩ | ⟨x, y⟩)
        · have hy : a.2 ≤ v.2 ∧ b.2 ≤ v.2 := by
            constructor <;> omega
          exact ⟨.inl ⟨by omega, hy.1⟩, .inl ⟨x, hy.2⟩⟩
        · exact ⟨x, .inr y⟩
      · rintro ⟨x, y | y⟩
        · refine .inl ⟨y.1, ?_⟩
          have : a.2 ≤ v.2 := x.elim (fun z => z.2) k1
          omega
        · exact .inr ⟨x, y⟩
theorem share_pr : ∀ (n : Nat) (l m : List PP), l.length + m.length ≤ n → (∀ p ∈ l, Pr p) → (∀ p ∈ m, Pr p) → (shareF l m).length ≤ l.length + m.length ∧ ∀ p ∈ shareF l m, Pr p
  | _, [], m, _, _, _ => by rw [share_nil]; simp
  | _, a :: as, [], _, _, _ => by rw [share_nil2]; simp
  | 0, a :: as, b :: bs, h, _, _ => by simp at h
  | n + 1, a :: as, b :: bs, h, h1, h2 => by
    rw [share_cons]
    simp only [List.length_cons] at h
    have ha := h1 a List.mem_cons_self
    have hb := h2 b List.mem_cons_self
    have hm : Pr (a.1, max a.2 b.2) ∧ (b.1 ≤ a.1 → Pr (b.1, max a.2 b.2)) := by
      obtain ⟨x, y, z⟩ := ha
      obtain ⟨x2, y2, z2⟩ := hb
      refine ⟨⟨x, ?_, ?_⟩, fun _ => ⟨x2, ?_, ?_⟩⟩ <;> simp only <;> omega
    by_cases c : a.1 ≤ b.1
    · rw [if_pos c]
      obtain ⟨i1, i2⟩ := share_pr n as (b :: bs) (by simp; omega) (fun p hp => h1 p (List.mem_cons_of_mem _ hp)) h2
      simp only [List.length_cons] at i1 ⊢
      refine ⟨by omega, fun p hp => ?_⟩
      rcases List.mem_cons.mp hp with rfl | hp
      · exact hm.1
      · exact i2 p hp
    · rw [if_neg c]
      obtain ⟨i1, i2⟩ := share_pr n (a :: as) bs (by simp; omega) h1 (fun p hp => h2 p (List.mem_cons_of_mem _ hp))
      simp only [List.length_cons] at i1 ⊢
      refine ⟨by omega, fun p hp => ?_⟩
      rcases List.mem_cons.mp hp with rfl | hp
      · exact hm.2 (by omega)
      · exact i2 p hp
/-! ### the program's way -/
theorem ix_nat {xs : List D} {i : Nat} {d : D} (h : xs[i]? = some d) : atI xs (i : Int) = some d := by
  unfold atI ixN
  have hl : i < xs.length := (List.getElem?_eq_some_iff.mp h).1
  rw [if_pos (by omega), if_pos (by omega)]
  simpa using h
noncomputable def tS : M Bool := (mTAnd (mTb (mLt (mHs 3) (mV (m1H gLen (mHs 0))))) (mTb (mLt (mHs 4) (mV (m1H gLen (mHs 1))))))
noncomputable def bS : FS := (sSeq (sAsg (gSet 5) (mMk gMin2 (mCons (m2H gIx (mV (m2H gIx (mHs 0) (mHs 3))) (mV (mC (.int 0)))) (mCons (m2H gIx (mV (m2H gIx (mHs 1) (mHs 4))) (mV (mC (.int 0)))) mNil))))
  (sSeq (sAppend 2 (mTup (mCons (mVar 5) (mCons (mMk gMax2 (mCons (m2H gIx (mV (m2H gIx (mHs 0) (mHs 3))) (mV (mC (.int 1)))) (mCons (m2H gIx (mV (m2H gIx (mHs 1) (mHs 4))) (mV (mC (.int 1)))) mNil))) mNil))))
  (sIf (mTb (m2H gEq (mV (m2H gIx (mV (m2H gIx (mHs 0) (mHs 3))) (mV (mC (.int 0))))) (mHs 5))) (sAug 3 (gAugAdd) (mC (.int 1))) (sAug 4 (gAugAdd) (mC (.int 1))))))
def Es (A B F : List D) (i j : Nat) (x : Sl) : En := [.sh (.lst A), .sh (.lst B), .ow true (.lst F), .sh (.int (i : Int)), .sh (.int (j : Int)), x]
theorem tst_s (A B F : List D) (i j : Nat) (x : Sl) : tS (Es A B F i j x) = some (decide (i < A.length) && decide (j < B.length), Es A B F i j x) := by
  have e1 : decide ((i : Int) < (A.length : Int)) = decide (i < A.length) := by simp
  have e2 : decide ((j : Int) < (B.length : Int)) = decide (j < B.length) := by simp
  unfold Es tS
  cases c : decide (i < A.length) with
  | false => rw [c] at e1; simp only [Bool.false_and]; simp [e1, c, mC, mVar, mHs, mV, FL.m2, m2H, FL.m1, m1H, mNil, mCons, mMk, mTb, mTNot, mTAnd, mTOr, mTru, mAnd, mOr, mIf, mChain, sSeq, sNil, sIf, sRet, sDrop, sAsg, gSet, gSets, gUn, lentS_un, lentS_sh, lentS_owt, deref, gI, gB, gNeg, gNot, gTupD, gLstD, szOk, truD, cMod, cDiv, mkFn, mkFnO, endF, FL.cut, FL.cutS, mCall, mCallO, mCallK, sOwn, sRetO, sRetV, gIx, gDGet, keyD, getK, putKD, sDPutD, mDispN, mDicN, gAdd, gMul, gSl, mPn, mPs, mSl, cutA, HT.sIx, gMin2, gMax2, gList, gTuple, gLen, gIsi, isObjD, kindN, isiB, sForL, sForT, sForR, itemsD, rgOk, sPar, cond_true, cond_false, sizeLine_eq, sAppend, mPop]
  | true => rw [c] at e1; simp only [Bool.true_and]; simp [e1, e2, c, mC, mVar, mHs, mV, FL.m2, m2H, FL.m1, m1H, mNil, mCons, mMk, mTb, mTNot, mTAnd, mTOr, mTru, mAnd, mOr, mIf, mChain, sSeq, sNil, sIf, sRet, sDrop, sAsg, gSet, gSets, gUn, lentS_un, lentS_sh, lentS_owt, deref, gI, gB, gNeg, gNot, gTupD, gLstD, szOk, truD, cMod, cDiv, mkFn, mkFnO, endF, FL.cut, FL.cutS, mCall, mCallO, mCallK, sOwn, sRetO, sRetV, gIx, gDGet, keyD, getK, putKD, sDPutD, mDispN, mDicN, gAdd, gMul, gSl, mPn, mPs, mSl, cutA, HT.sIx, gMin2, gMax2, gList, gTuple, gLen, gIsi, isObjD, kindN, isiB, sForL, sForT, sForR, itemsD, rgOk, sPar, cond_true, cond_false, sizeLine_eq, sAppend, mPop]
theorem turn_s (A B F : List D) (i j : Nat) (x : Sl) (hx : lentS x = false) (hF : F.length < 1000000) (a b : PP) (ha : A[i]? = some (tupP a)) (hb : B[j]? = some (tupP b)) :
    bS (Es A B F i j x) = some (.nx (if a.1 ≤ b.1 then Es A B (F ++ [tupP (a.1, max a.2 b.2)]) (i + 1) j (.sh (.int a.1)) else Es A B (F ++ [tupP (b.1, max a.2 b.2)]) i (j + 1) (.sh (.int b.1)))) := by
  have i1 := ix_nat ha
  have i2 := ix_nat hb
  have a0 : atI [D.int a.1, D.int a.2] 0 = some (D.int a.1) := rfl
  have a1 : atI [D.int a.1, D.int a.2] 1 = some (D.int a.2) := rfl
  have b0 : atI [D.int b.1, D.int b.2] 0 = some (D.int b.1) := rfl
  have b1 : atI [D.int b.1, D.int b.2] 1 = some (D.int b.2) := rfl
  have ii : (i : Int) + 1 = ((i + 1 : Nat) : Int) := by omega
  have jj : (j : Int) + 1 = ((j + 1 : Nat) : Int) := by omega
  unfold tupP at i1 i2 ⊢
  unfold Es bS
  by_cases c : a.1 ≤ b.1
  · rw [if_pos c]
    have mn : (if b.1 < a.1 then b.1 else a.1) = a.1 := if_neg (by omega)
    have mx : (if b.2 > a.2 then b.2 else a.2) = max a.2 b.2 := by split <;> omega
    have eq := eqI a.1 a.1
    rw [decide_eq_true rfl] at eq
    generalize max a.2 b.2 = M at mx ⊢
    simp [i1, i2, a0, a1, b0, b1, mn, mx, eq, hx, hF, sAppend, FL.sAug, gAugAdd, mC, mVar, mHs, mV, FL.m2, m2H, FL.m1, m1H, mNil, mCons, mMk, mTb, mTNot, mTAnd, mTOr, mTru, mAnd, mOr, mIf, mChain, sSeq, sNil, sIf, sRet, sDrop, sAsg, gSet, gSets, gUn, lentS_un, lentS_sh, lentS_owt, deref, gI, gB, gNeg, gNot, gTupD, gLstD, szOk, truD, cMod, cDiv, mkFn, mkFnO, endF, FL.cut, FL.cutS, mCall, mCallO, mCallK, sOwn, sRetO, sRetV, gIx, gDGet, keyD, getK, putKD, sDPutD, mDispN, mDicN, gAdd, gMul, gSl, mPn, mPs, mSl, cutA, HT.sIx, gMin2, gMax2, gList, gTuple, gLen, gIsi, isObjD, kindN, isiB, sForL, sForT, sForR, itemsD, rgOk, sPar, cond_true, cond_false, sizeLine_eq, sAppend, mPop]
  · rw [if_neg c]
    have mn : (if b.1 < a.1 then b.1 else a.1) = b.1 := if_pos (by omega)
    have mx : (if b.2 > a.2 then b.2 else a.2) = max a.2 b.2 := by split <;> omega
    have eq := eqI a.1 b.1
    rw [decide_eq_false (by omega)] at eq
    generalize max a.2 b.2 = M at mx ⊢
    simp [i1, i2, a0, a1, b0, b1, mn, mx, eq, hx, hF, sAppend, FL.sAug, gAugAdd, mC, mVar, mHs, mV, FL.m2, m2H, FL.m1, m1H, mNil, mCons, mMk, mTb, mTNot, mTAnd, mTOr, mTru, mAnd, mOr, mIf, mChain, sSeq, sNil, sIf, sRet, sDrop, sAsg, gSet, gSets, gUn, lentS_un, lentS_sh, lentS_owt, deref, gI, gB, gNeg, gNot, gTupD, gLstD, szOk, truD, cMod, cDiv, mkFn, mkFnO, endF, FL.cut, FL.cutS, mCall, mCallO, mCallK, sOwn, sRetO, sRetV, gIx, gDGet, keyD, getK, putKD, sDPutD, mDispN, mDicN, gAdd, gMul, gSl, mPn, mPs, mSl, cutA, HT.sIx, gMin2, gMax2, gList, gTuple, gLen, gIsi, isObjD, kindN, isiB, sForL, sForT, sForR, itemsD, rgOk, sPar, cond_true, cond_false, sizeLine_eq, sAppend, mPop]

theorem whS (A B : List PP) : ∀ (n i j k : Nat) (F : List PP) (x : Sl), lentS x = false → (A.length - i) + (B.length - j) ≤ k → k < n → F.length + k < 1000000 → ∃ i' j' x', whileF tS bS n (Es (A.map tupP) (B.map tupP) (F.map tupP) i j x) = some (.nx (Es (A.map tupP) (B.map tupP) ((F ++ shareF (A.drop i) (B.drop j)).map tupP) i' j' x'))
  | 0, _, _, k, _, _, _, _, h, _ => by omega
  | n + 1, i, j, k, F, x, hx, hk, hn, hF => by
    have t := tst_s (A.map tupP) (B.map tupP) (F.map tupP) i j x
    rw [List.length_map, List.length_map] at t
    by_cases c : i < A.length ∧ j < B.length
    · rw [decide_eq_true c.1, decide_eq_true c.2] at t
      have ha : (A.map tupP)[i]? = some (tupP A[i]) := by simp [c.1]
      have hb : (B.map tupP)[j]? = some (tupP B[j]) := by simp [c.2]
      have u := turn_s (A.map tupP) (B.map tupP) (F.map tupP) i j x hx (by simp; omega) A[i] B[j] ha hb
      have dA : A.drop i = A[i] :: A.drop (i + 1) := List.drop_eq_getElem_cons c.1
      have dB : B.drop j = B[j] :: B.drop (j + 1) := List.drop_eq_getElem_cons c.2
      have sh : shareF (A.drop i) (B.drop j) = if A[i].1 ≤ B[j].1 then (A[i].1, max A[i].2 B[j].2) :: shareF (A.drop (i + 1)) (B.drop j) else (B[j].1, max A[i].2 B[j].2) :: shareF (A.drop i) (B.drop (j + 1)) := by
        rw [dA, dB, share_cons, ← dA, ← dB]
      have st : whileF tS bS (n + 1) (Es (A.map tupP) (B.map tupP) (F.map tupP) i j x) = whileF tS bS n (if A[i].1 ≤ B[j].1 then Es (A.map tupP) (B.map tupP) (F.map tupP ++ [tupP (A[i].1, max A[i].2 B[j].2)]) (i + 1) j (.sh (.int A[i].1)) else Es (A.map tupP) (B.map tupP) (F.map tupP ++ [tupP (B[j].1, max A[i].2 B[j].2)]) i (j + 1) (.sh (.int B[j].1))) := by
        rw [whileF, t]
        show (match bS (Es (A.map tupP) (B.map tupP) (F.map tupP) i j x) with
          | some (.nx e2) => whileF tS bS n e2
          | some (.ct e2) => whileF tS bS n e2
          | some (.bk e2) => some (.nx e2)
          | some (.rt d e2) => some (.rt d e2)
          | some (.ro d e2) => some (.ro d e2)
          | none => none) = _
        rw [u]
      rw [st, sh]
      by_cases c2 : A[i].1 ≤ B[j].1
      · rw [if_pos c2, if_pos c2]
        have ap : F.map tupP ++ [tupP (A[i].1, max A[i].2 B[j].2)] = (F ++ [(A[i].1, max A[i].2 B[j].2)]).map tupP := by rw [List.map_append]; rfl
        rw [ap]
        obtain ⟨i', j', x', q⟩ := whS A B n (i + 1) j (k - 1) (F ++ [(A[i].1, max A[i].2 B[j].2)]) (.sh (.int A[i].1)) rfl (by omega) (by omega) (by simp; omega)
        refine ⟨i', j', x', ?_⟩
        rw [q, List.append_assoc]
        rfl
      · rw [if_neg c2, if_neg c2]
        have ap : F.map tupP ++ [tupP (B[j].1, max A[i].2 B[j].2)] = (F ++ [(B[j].1, max A[i].2 B[j].2)]).map tupP := by rw [List.map_append]; rfl
        rw [ap]
        obtain ⟨i', j', x', q⟩ := whS A B n i (j + 1) (k - 1) (F ++ [(B[j].1, max A[i].2 B[j].2)]) (.sh (.int B[j].1)) rfl (by omega) (by omega) (by simp; omega)
        refine ⟨i', j', x', ?_⟩
        rw [q, List.append_assoc]
        rfl
    · have f : (decide (i < A.length) && decide (j < B.length)) = false := by
        rw [Bool.eq_false_iff]
        intro h
        simp at h
        exact c h
      rw [f] at t
      have sh : shareF (A.drop i) (B.drop j) = [] := by
        by_cases hi : i < A.length
        · rw [show B.drop j = [] from List.drop_eq_nil_of_le (by omega), share_nil2]
        · rw [show A.drop i = [] from List.drop_eq_nil_of_le (by omega), share_nil]
      refine ⟨i, j, x, ?_⟩
      rw [whileF, t, sh, List.append_nil]
theorem p_share (A B : List PP) (ha : A.length ≤ 1000) (hb : B.length ≤ 1000) : F__shared_pairs [.sh (.lst (A.map tupP)), .sh (.lst (B.map tupP))] = some (.lst ((shareF A B).map tupP), [.un, .un]) := by
  have eb : B__shared_pairs = (sSeq (sOwn 2 (mMk gLstD mNil)) (sSeq (sAsg (gSet 3) (mC (.int 0))) (sSeq (sAsg (gSet 4) (mC (.int 0))) (sSeq (sWhile 100000 tS bS) (sRet (mVar 2)))))) := rfl
  obtain ⟨i', j', x', q⟩ := whS A B 100000 0 0 2000 [] .un rfl (by omega) (by omega) (by simp)
  rw [List.drop_zero, List.drop_zero, List.nil_append] at q
  have e0 : ([] : List PP).map tupP = [] := rfl
  rw [e0] at q
  unfold F__shared_pairs
  rw [eb]
  unfold Es at q
  generalize A.map tupP = GA at q ⊢
  generalize B.map tupP = GB at q ⊢
  generalize (shareF A B).map tupP = GS at q ⊢
  have q' : sWhile 100000 tS bS [.sh (.lst GA), .sh (.lst GB), .ow true (.lst []), .sh (.int 0), .sh (.int 0), .un] = _ := q
  generalize sWhile 100000 tS bS = W at q' ⊢
  simp [q', mC, mVar, mHs, mV, FL.m2, m2H, FL.m1, m1H, mNil, mCons, mMk, mTb, mTNot, mTAnd, mTOr, mTru, mAnd, mOr, mIf, mChain, sSeq, sNil, sIf, sRet, sDrop, sAsg, gSet, gSets, gUn, lentS_un, lentS_sh, lentS_owt, deref, gI, gB, gNeg, gNot, gTupD, gLstD, szOk, truD, cMod, cDiv, mkFn, mkFnO, endF, FL.cut, FL.cutS, mCall, mCallO, mCallK, sOwn, sRetO, sRetV, gIx, gDGet, keyD, getK, putKD, sDPutD, mDispN, mDicN, gAdd, gMul, gSl, mPn, mPs, mSl, cutA, HT.sIx, gMin2, gMax2, gList, gTuple, gLen, gIsi, isObjD, kindN, isiB, sForL, sForT, sForR, itemsD, rgOk, sPar, cond_true, cond_false, sizeLine_eq, sAppend, mPop]
/-- the pairs of either, of both -/
def U (c d : List PP) : List PP := corn (c ++ d)
def I (c d : List PP) : List PP := corn (shareF c d)
theorem corn_has' (ps : List PP) (v : PP) : Has (corn ps) v ↔ Has ps v := Iff.trans ⟨fun ⟨r, hr, x⟩ => ⟨r, List.mem_reverse.mp hr, x⟩, fun ⟨r, hr, x⟩ => ⟨r, List.mem_reverse.mpr hr, x⟩⟩ (corn_has ps v)
theorem has_U (c d : List PP) (v : PP) : Has (U c d) v ↔ Has c v ∨ Has d v := (corn_has' _ v).trans (has_app c d v)
theorem has_I {c d : List PP} (hc : Asc c) (hd : Asc d) (v : PP) : Has (I c d) v ↔ Has c v ∧ Has d v := (corn_has' _ v).trans (share_has _ c d (Nat.le_refl _) hc hd v)
/-- ascending lists are told by their pairs -/
theorem asc_has {c d : List PP} (hc : Asc c) (hd : Asc d) (h : ∀ v, Has c v ↔ Has d v) : c = d := by
  have fx : ∀ {l : List PP}, Asc l → corn l = l := fun {l} hl => asc_ext (corn_asc l) hl fun q => by
    rw [corn_mem]
    refine ⟨fun h => h.1, fun h => ⟨h, fun o ho hne hh => ?_⟩⟩
    rcases asc_pair hl h ho with e | e | e
    · exact hne e.symm
    · omega
    · omega
  rw [← fx hc, ← fx hd]
  exact corn_ext h
/-- a staircase's corners, not too many -/
structure Ok (n : Nat) (c : List PP) : Prop where
  asc : Asc c
  len : c.length ≤ n
  pr : ∀ p ∈ c, Pr p
theorem ok_corn {n : Nat} {ps : List PP} (h : ps.length ≤ n) (hp : ∀ p ∈ ps, Pr p) : Ok n (corn ps) := ⟨corn_asc ps, Nat.le_trans (corn_len ps) h, fun p q => hp p ((corn_mem ps p).mp q).1⟩
theorem ok_U {n m : Nat} {c d : List PP} (hc : Ok n c) (hd : Ok m d) : Ok (n + m) (U c d) := ok_corn (by have := hc.len; have := hd.len; simp; omega) fun p hp => (List.mem_append.mp hp).elim (hc.pr p) (hd.pr p)
theorem ok_I {n m : Nat} {c d : List PP} (hc : Ok n c) (hd : Ok m d) : Ok (n + m) (I c d) := by
  obtain ⟨a, b⟩ := share_pr _ c d (Nat.le_refl _) hc.pr hd.pr
  exact ok_corn (by have := hc.len; have := hd.len; omega) b
theorem Ok.c {n : Nat} {c : List PP} (h : Ok n c) (hn : n ≤ 1000) : OkC c := ⟨h.asc, Nat.le_trans h.len hn, h.pr⟩
theorem p_make (l : List PP) (h : l.length < 900) (hp : ∀ p ∈ l, Pr p) {fa : M (List D)} {e e1 : En} (q : fa e = some (l.map tupP, e1)) : mMakeS "Stairs" F_Stairs____init__ fa e = some (So (corn l), e1) := by
  have i := init l h hp
  rw [st_so] at i
  have hc : cLen (l.map tupP).length = true := by unfold cLen; simp; omega
  unfold mMakeS
  rw [q]
  simp only [hc, cond_true, i]
theorem p_or {n m : Nat} {c d : List PP} (hc : Ok n c) (hd : Ok m d) (hn : n + m < 900) : F_Stairs____or__ [.sh (So c), .sh (So d)] = some (So (U c d), [.un, .un]) := by
  have eb : B_Stairs____or__ = (sSeq (sAsg (gSet 2) (mLst (mStar (m1H (gFld "Stairs" "_corners") (mHs 0)) (mStar (m1H (gFld "Stairs" "_corners") (mHs 1)) mNil)))) (sRet (mMakeS "Stairs" F_Stairs____init__ (mStar (mVar 2) mNil)))) := rfl
  have hl : (c ++ d).length < 900 := by have := hc.len; have := hd.len; simp; omega
  have mk := fun (e e1 : En) (fa : M (List D)) (q : fa e = some ((c ++ d).map tupP, e1)) => p_make (c ++ d) hl (fun p hp => (List.mem_append.mp hp).elim (hc.pr p) (hd.pr p)) q
  have f1 := fld c
  have f2 := fld d
  have mk' := mk [.sh (So c), .sh (So d), .sh (.lst ((c ++ d).map tupP))] [.sh (So c), .sh (So d), .sh (.lst ((c ++ d).map tupP))] (mStar (mVar 2) mNil) (by simp [FL.mStar, FL.seqD, mVar, mNil])
  have hz : (c.map tupP).length + (d.map tupP).length ≤ 16777216 := by have := hc.len; have := hd.len; simp; omega
  unfold F_Stairs____or__ U
  rw [eb]
  rw [List.map_append] at mk'
  generalize So (corn (c ++ d)) = R at mk' ⊢
  generalize So c = C at mk' f1 ⊢
  generalize So d = D' at mk' f2 ⊢
  generalize c.map tupP = GC at mk' f1 hz ⊢
  generalize d.map tupP = GD at mk' f2 hz ⊢
  generalize mMakeS "Stairs" F_Stairs____init__ (mStar (mVar 2) mNil) = W at mk' ⊢
  have fg : ∀ x, FL.gFld "Stairs" "_corners" x = gFld "Stairs" "_corners" x := fun _ => rfl
  generalize gFld "Stairs" "_corners" = GF at f1 f2 fg ⊢
  simp [mk', f1, f2, FL.mStar, FL.seqD, hz, mC, mVar, mHs, mV, FL.m2, m2H, FL.m1, m1H, mNil, mCons, mMk, mTb, mTNot, mTAnd, mTOr, mTru, mAnd, mOr, mIf, mChain, sSeq, sNil, sIf, sRet, sDrop, sAsg, gSet, gSets, gUn, lentS_un, lentS_sh, lentS_owt, deref, gI, gB, gNeg, gNot, gTupD, gLstD, szOk, truD, cMod, cDiv, mkFn, mkFnO, endF, FL.cut, FL.cutS, mCall, mCallO, mCallK, sOwn, sRetO, sRetV, gIx, gDGet, keyD, getK, putKD, sDPutD, mDispN, mDicN, gAdd, gMul, gSl, mPn, mPs, mSl, cutA, HT.sIx, gMin2, gMax2, gList, gTuple, gLen, gIsi, isObjD, kindN, isiB, sForL, sForT, sForR, itemsD, rgOk, sPar, cond_true, cond_false, sizeLine_eq, sAppend, mPop]
theorem p_and {n m : Nat} {c d : List PP} (hc : Ok n c) (hd : Ok m d) (hn : n + m < 900) : F_Stairs____and__ [.sh (So c), .sh (So d)] = some (So (I c d), [.un, .un]) := by
  have eb : B_Stairs____and__ = (sSeq (sAsg (gSet 2) (mCall F__shared_pairs (mCons (m1H (gFld "Stairs" "_corners") (mHs 0)) (mCons (m1H (gFld "Stairs" "_corners") (mHs 1)) mNil)))) (sRet (mMakeS "Stairs" F_Stairs____init__ (mStar (mVar 2) mNil)))) := rfl
  obtain ⟨k1, k2⟩ := share_pr _ c d (Nat.le_refl _) hc.pr hd.pr
  have hl : (shareF c d).length < 900 := by have := hc.len; have := hd.len; omega
  have f1 := fld c
  have f2 := fld d
  have sh := p_share c d (by have := hc.len; omega) (by have := hd.len; omega)
  have mk' := p_make (shareF c d) hl k2 (fa := mStar (mVar 2) mNil) (e := [.sh (So c), .sh (So d), .sh (.lst ((shareF c d).map tupP))]) (e1 := [.sh (So c), .sh (So d), .sh (.lst ((shareF c d).map tupP))]) (by simp [FL.mStar, FL.seqD, mVar, mNil])
  unfold F_Stairs____and__ I
  rw [eb]
  generalize So (corn (shareF c d)) = R at mk' ⊢
  generalize So c = C at mk' f1 ⊢
  generalize So d = D' at mk' f2 ⊢
  generalize (shareF c d).map tupP = GS at mk' sh ⊢
  generalize c.map tupP = GC at sh f1 ⊢
  generalize d.map tupP = GD at sh f2 ⊢
  generalize mMakeS "Stairs" F_Stairs____init__ (mStar (mVar 2) mNil) = W at mk' ⊢
  generalize gFld "Stairs" "_corners" = GF at f1 f2 ⊢
  simp [mk', f1, f2, sh, mC, mVar, mHs, mV, FL.m2, m2H, FL.m1, m1H, mNil, mCons, mMk, mTb, mTNot, mTAnd, mTOr, mTru, mAnd, mOr, mIf, mChain, sSeq, sNil, sIf, sRet, sDrop, sAsg, gSet, gSets, gUn, lentS_un, lentS_sh, lentS_owt, deref, gI, gB, gNeg, gNot, gTupD, gLstD, szOk, truD, cMod, cDiv, mkFn, mkFnO, endF, FL.cut, FL.cutS, mCall, mCallO, mCallK, sOwn, sRetO, sRetV, gIx, gDGet, keyD, getK, putKD, sDPutD, mDispN, mDicN, gAdd, gMul, gSl, mPn, mPs, mSl, cutA, HT.sIx, gMin2, gMax2, gList, gTuple, gLen, gIsi, isObjD, kindN, isiB, sForL, sForT, sForR, itemsD, rgOk, sPar, cond_true, cond_false, sizeLine_eq, sAppend, mPop]
/-! ### with expressions -/
/-- an expression that gives a staircase and leaves all as it is -/
structure Ev (E : En) (f : M D) (n : Nat) (c : List PP) : Prop where
  ev : f E = some (So c, E)
  ok : Ok n c
theorem Ev.or {E : En} {f g : M D} {n m : Nat} {c d : List PP} (hf : Ev E f n c) (hg : Ev E g m d) (hn : n + m < 900) : Ev E (mOpO "Stairs" F_Stairs____or__ f g) (n + m) (U c d) := by
  refine ⟨?_, ok_U hf.ok hg.ok⟩
  have q := p_or hf.ok hg.ok hn
  have he := hf.ev
  have hg' := hg.ev
  unfold mOpO
  simp only [So] at q he hg' ⊢
  rw [he]
  simp only [hg']
  simp only [and_self, if_true, q]
theorem Ev.and {E : En} {f g : M D} {n m : Nat} {c d : List PP} (hf : Ev E f n c) (hg : Ev E g m d) (hn : n + m < 900) : Ev E (mOpO "Stairs" F_Stairs____and__ f g) (n + m) (I c d) := by
  refine ⟨?_, ok_I hf.ok hg.ok⟩
  have q := p_and hf.ok hg.ok hn
  have he := hf.ev
  have hg' := hg.ev
  unfold mOpO
  simp only [So] at q he hg' ⊢
  rw [he]
  simp only [hg']
  simp only [and_self, if_true, q]
theorem mCmp_so (n : Bool) (c : List PP) (d : D) (b : Bool) (e' : En) (fa fb : M D) (e e1 e2 : En) (h : fa e = some (So c, e1)) (h2 : fb e1 = some (d, e2)) (hr : rOk "Stairs" d = true) (q : F_Stairs____eq__ [.sh (So c), .sh d] = some (.bl b, e')) : mCmpX "Stairs" F_Stairs____eq__ n fa fb e = some (.bl (n != b), e2) := by
  unfold mCmpX
  rw [h]
  simp only [h2]
  simp only [So] at q ⊢
  simp only [hr, and_self, if_true, q]
theorem Ev.cmp {E : En} {f g : M D} {n m : Nat} {c d : List PP} (b : Bool) (hf : Ev E f n c) (hg : Ev E g m d) : mCmpX "Stairs" F_Stairs____eq__ b f g E = some (.bl (b != decide (c = d)), E) :=
  mCmp_so b c (So d) _ _ f g E E E hf.ev hg.ev rfl (p_eq c d)
theorem tb_bl {m : M D} {E e : En} {b : Bool} (h : m E = some (.bl b, e)) : mTb m E = some (b, e) := by unfold mTb; rw [h]
/-- != of the same -/
theorem Ev.ne {E : En} {f g : M D} {n m : Nat} {c d : List PP} (hf : Ev E f n c) (hg : Ev E g m d) (h : c = d) : mTb (mCmpX "Stairs" F_Stairs____eq__ true f g) E = some (false, E) := by
  have := hf.cmp true hg
  rw [decide_eq_true h] at this
  exact tb_bl this
theorem p_within {n m : Nat} {c d : List PP} (hc : Ok n c) (hd : Ok m d) (hn : n + m < 900) : F_Stairs__within [.sh (So c), .sh (So d)] = some (.bl (decide (I c d = c)), [.un, .un]) := by
  have eb : B_Stairs__within = (sRet (mCmpX "Stairs" F_Stairs____eq__ false (mOpO "Stairs" F_Stairs____and__ (mVar 0) (mVar 1)) (mVar 0))) := rfl
  have v0 : Ev [.sh (So c), .sh (So d)] (mVar 0) n c := ⟨rfl, hc⟩
  have v1 : Ev [.sh (So c), .sh (So d)] (mVar 1) m d := ⟨rfl, hd⟩
  have q := (v0.and v1 hn).cmp false v0
  have fb : ∀ b : Bool, (false != b) = b := fun b => by cases b <;> rfl
  rw [fb] at q
  unfold F_Stairs__within
  rw [eb]
  generalize mCmpX "Stairs" F_Stairs____eq__ false (mOpO "Stairs" F_Stairs____and__ (mVar 0) (mVar 1)) (mVar 0) = W at q ⊢
  generalize So c = C at q ⊢
  generalize So d = D' at q ⊢
  simp [q, mC, mVar, mHs, mV, FL.m2, m2H, FL.m1, m1H, mNil, mCons, mMk, mTb, mTNot, mTAnd, mTOr, mTru, mAnd, mOr, mIf, mChain, sSeq, sNil, sIf, sRet, sDrop, sAsg, gSet, gSets, gUn, lentS_un, lentS_sh, lentS_owt, deref, gI, gB, gNeg, gNot, gTupD, gLstD, szOk, truD, cMod, cDiv, mkFn, mkFnO, endF, FL.cut, FL.cutS, mCall, mCallO, mCallK, sOwn, sRetO, sRetV, gIx, gDGet, keyD, getK, putKD, sDPutD, mDispN, mDicN, gAdd, gMul, gSl, mPn, mPs, mSl, cutA, HT.sIx, gMin2, gMax2, gList, gTuple, gLen, gIsi, isObjD, kindN, isiB, sForL, sForT, sForR, itemsD, rgOk, sPar, cond_true, cond_false, sizeLine_eq, sAppend, mPop]
theorem Ev.within {E : En} {f g : M D} {n m : Nat} {c d : List PP} (hf : Ev E f n c) (hg : Ev E g m d) (hn : n + m < 900) : mMeth "Stairs" "within" F_Stairs__within f (mCons g mNil) E = some (.bl (decide (I c d = c)), E) := by
  have q := p_within hf.ok hg.ok hn
  have hm : mCons g mNil E = some ([So d], E) := by simp [mCons, mNil, hg.ev]
  have lk : ∀ z : D, List.lookup ("within" : Str) [(("_corners" : Str), z)] = none := fun z => by
    have h : (("within" : Str) == "_corners") = false := by decide +kernel
    simp only [List.lookup, h]
  have he := hf.ev
  unfold mMeth
  simp only [So] at q hm he ⊢
  rw [he]
  simp only [lk, and_self, if_true, hm, List.map_cons, List.map_nil, q]
end PL

namespace PL
open PySem PySem.Spec PyProof.Rows L2 FL
set_option maxRecDepth 100000
set_option maxHeartbeats 8000000
set_option linter.all false
/-! ### the text of a number -/
noncomputable def ts (i : Int) : Str := Str.ofString (toString i)
theorem tl_ts {i : Int} (h : 0 ≤ i) : TL.tl (ts i) = TL.numL i.toNat := by
  have e : i = ((i.toNat : Nat) : Int) := by omega
  have q := TL.tl_num i.toNat
  rw [← e] at q
  exact q
theorem numL_head : ∀ n : Nat, 0 < n → ∃ a r, TL.numL n = a :: r ∧ a ≠ 48 := by
  intro n
  induction n using Nat.strongRecOn with
  | _ n ih =>
    intro h
    by_cases c : n < 10
    · exact ⟨48 + n, [], TL.numL_lt c, by omega⟩
    · obtain ⟨a, r, e, ha⟩ := ih (n / 10) (by omega) (by omega)
      exact ⟨a, r ++ [48 + n % 10], by rw [TL.numL_step (by omega), e]; rfl, ha⟩
theorem ts_digit {i : Int} (h : 0 ≤ i) : Txt.isdigit (ts i) = true := by
  have d := TL.numL_digits i.toNat
  have e := tl_ts h
  unfold Txt.isdigit
  rw [Bool.and_eq_true]
  refine ⟨?_, ?_⟩
  · rw [TL.len_tl, e]
    have := TL.numL_ne i.toNat
    rw [decide_eq_true_eq]
    exact List.length_pos_iff.mpr this
  · rw [← Array.all_toList]
    show (TL.tl (ts i)).all Unicode.isDigit = true
    rw [e, List.all_eq_true]
    intro c hc
    have r := d c hc
    have key : ∀ c : Nat, c < 58 → 48 ≤ c → Unicode.isDigit c = true := by decide +kernel
    exact key c (by omega) (by omega)
theorem ts_ascii {i : Int} (h : 0 ≤ i) : Txt.isascii (ts i) = true := by
  have d := TL.numL_digits i.toNat
  have e := tl_ts h
  unfold Txt.isascii
  rw [← Array.all_toList]
  show (TL.tl (ts i)).all (fun c => decide (c < 128)) = true
  rw [e, List.all_eq_true]
  intro c hc
  have r := d c hc
  rw [decide_eq_true_eq]
  omega
theorem ts_zero {i : Int} (h : 0 ≤ i) : (ts i = Str.ofString "0") ↔ i = 0 := by
  constructor
  · intro z
    have e := tl_ts h
    rw [z] at e
    have e2 : TL.tl (Str.ofString "0") = TL.numL 0 := by rw [TL.numL_lt (by decide)]; decide +kernel
    rw [e2] at e
    have := TL.numL_inj e
    omega
  · intro z
    subst z
    rfl
theorem ts_starts {i : Int} (h : 0 < i) : Txt.startswith (ts i) (Str.ofString "0") = false := by
  obtain ⟨a, r, e, ha⟩ := numL_head i.toNat (by omega)
  have t := tl_ts (i := i) (by omega)
  rw [e] at t
  rw [Bool.eq_false_iff]
  intro z
  unfold Txt.startswith at z
  rw [Bool.and_eq_true] at z
  have z2 := z.2
  unfold PySem.Builtin.Str.subAt at z2
  have z3 := beq_iff_eq.mp z2
  have z4 := congrArg Array.toList z3
  have c1 : (Str.ofString "0").cps.toList = [48] := by decide +kernel
  have c2 : (Str.ofString "0").length = 1 := by decide +kernel
  rw [c1, c2, Array.toList_extract] at z4
  have t' : (ts i).cps.toList = a :: r := t
  rw [t'] at z4
  simp at z4
  exact ha z4
theorem ts_int {i : Int} (h : 0 ≤ i) (h2 : i.natAbs < 10 ^ 60) : PySem.intText? (ts i) = some i := by
  have e : i = ((i.toNat : Nat) : Int) := by omega
  have q := TL.int_num (n := i.toNat) (Nat.le_trans (TL.numL_len (k := 60) (by decide) (by omega)) (by decide))
  rw [← e] at q
  exact q
/-! ### the text of corners, split -/
theorem tp_join (p : PP) : tp p = Txt.join (Str.ofString " ") [ts p.1, ts p.2] := by
  rw [TL.join_eq]
  refine TL.ext_tl ?_
  rw [TL.tl_join]
  unfold tp ts
  rw [TL.tl_append, TL.tl_append, TL.tl_append]
  have e : TL.tl Str.empty = [] := rfl
  rw [e, List.nil_append, List.append_assoc]
  rfl
theorem free_ts {i : Int} (h : 0 ≤ i) {s : Nat} (hs : s < 48) : s ∉ TL.tl (ts i) := by
  rw [tl_ts h]
  exact TL.numL_free (.inl hs)
theorem split_tp {p : PP} (h : Pr p) : Txt.split (tp p) (Str.ofString " ") = [ts p.1, ts p.2] := by
  obtain ⟨h0, h1, _⟩ := h
  rw [tp_join]
  refine TL.split_join (s := 32) (S := []) (by decide +kernel) (by decide +kernel) (by simp) fun q hq => ?_
  simp only [List.mem_cons, List.not_mem_nil, or_false] at hq
  rcases hq with rfl | rfl
  · exact free_ts h0 (by decide)
  · exact free_ts (by omega) (by decide)
theorem free_tp {p : PP} (h : Pr p) : 44 ∉ TL.tl (tp p) := by
  obtain ⟨h0, h1, _⟩ := h
  unfold tp
  rw [TL.tl_append, TL.tl_append, TL.tl_append]
  intro z
  have e : TL.tl Str.empty = [] := rfl
  have e2 : TL.tl (Str.ofString " ") = [32] := by decide +kernel
  rw [e, e2] at z
  simp only [List.nil_append, List.mem_append, List.mem_cons, List.not_mem_nil, or_false] at z
  rcases z with (z | z) | z
  · exact free_ts h0 (by decide) z
  · cases z
  · exact free_ts (i := p.2) (by omega) (by decide) z
theorem split_txt {c : List PP} (hne : c ≠ []) (h : ∀ p ∈ c, Pr p) : Txt.split (txt c) (Str.ofString ", ") = c.map tp := by
  unfold txt
  refine TL.split_join (s := 44) (S := [32]) (by decide +kernel) (by decide +kernel) (by simpa using hne) fun q hq => ?_
  obtain ⟨p, hp, rfl⟩ := List.mem_map.mp hq
  exact free_tp (h p hp)
theorem txt_nil : txt [] = Str.ofString "" := by
  unfold txt
  rw [TL.join_eq]
  decide +kernel
theorem txt_ne {c : List PP} (hne : c ≠ []) (h : ∀ p ∈ c, Pr p) : txt c ≠ Str.ofString "" := by
  intro z
  have s := split_txt hne h
  rw [z] at s
  have e : Txt.split (Str.ofString "") (Str.ofString ", ") = [Str.ofString ""] := by decide +kernel
  rw [e] at s
  match c, hne, s with
  | [p], _, s =>
    have s2 : Str.ofString "" = tp p := by simpa using s
    have t := congrArg Str.length s2
    unfold tp at t
    rw [Str.length_append, Str.length_append, Str.length_append] at t
    have e2 : (Str.ofString " ").length = 1 := by decide +kernel
    have e3 : (Str.ofString "").length = 0 := by decide +kernel
    omega
  | _ :: _ :: _, _, s => simp at s
end PL

set_option Elab.async false
set_option linter.all false
set_option maxRecDepth 100000
set_option maxHeartbeats 4000000
namespace K13
open PySem PySem.Spec PyProof.Rows L2 FL PL
noncomputable def B__law_goods : FS := (sSeq (sParO 2 3 (mCallO F__law_one_of 0 (mCons (mLst (mCons (mC (.int 1)) (mCons (mC (.int 4)) (mCons (mC (.int 9)) (mCons (mC (.int 9)) (mCons (mPow (mC (.int 10)) (mC (.int 9))) mNil)))))) mNil)) (mMk gLstD mNil))
  (sSeq (sAsg (gSet 4) (mCallO F__law_one_of 0 (mCons (mLst (mCons (mC (.int 1)) (mCons (mC (.int 7)) (mCons (mC (.int 1000)) mNil)))) mNil)))
  (sSeq (sForR (mCons (mVar 1) mNil) (gSet 5) (sSeq (sAsg (gSet 6) (mCallO F__law_pick 0 (mCons (mC (.int 13)) mNil)))
  (sSeq (sAsg (gSet 7) (mAddA (mHs 6) (mV (mCallO F__law_pick 0 (mCons (mCallO F__law_one_of 0 (mCons (mLst (mCons (mC (.int 1)) (mCons (mC (.int 4)) (mCons (mC (.int 9)) mNil)))) mNil)) mNil)))))
  (sAppend 3 (mTup (mCons (mAddA (mV (mC (.int 1))) (mV (mMulA (mHs 4) (mHs 5)))) (mCons (mVar 6) (mCons (mVar 7) (mCons (mAddA (mV (mC (.int 1))) (mV (mCallO F__law_pick 0 (mCons (mVar 2) mNil)))) mNil)))))))))
  (sRet (mVar 3)))))
noncomputable def F__law_goods : Fn := mkFn 8 2 B__law_goods
noncomputable def B_read_number : FS := (sSeq (sIf (mTOr (mTNot (mTAnd (mTb (m1 gIsascii (mVar 0))) (mTb (m1 gIsdigit (mVar 0))))) (mTb (mGt (mV (m1H gLen (mHs 0))) (mV (mC (.int 60)))))) (sRet (mC .non)) sNil)
  (sSeq (sIf (mTAnd (mTb (m2H gNe (mHs 0) (mV (mC (.str "0"))))) (mTb (m2 gStarts (mVar 0) (mC (.str "0"))))) (sRet (mC .non)) sNil)
  (sRet (mMk gIntS (mCons (mVar 0) mNil)))))
noncomputable def F_read_number : Fn := mkFn 1 1 B_read_number
noncomputable def B__pairs_told : FS := (sSeq (sIf (mTNot (mTb (m1H (gIsi "str") (mHs 0)))) (sRet (mC .non)) sNil)
  (sSeq (sOwn 1 (mMk gLstD mNil))
  (sSeq (sIf (mTb (m2H gEq (mHs 0) (mV (mC (.str ""))))) (sRet (mVar 1)) sNil)
  (sSeq (sForL (m2 gSplit (mVar 0) (mC (.str ", "))) (gSet 2) (sSeq (sAsg (gSet 3) (mMk gTuple (mCons (mCompL (m2 gSplit (mVar 2) (mC (.str " "))) (gSet 4) mYes (mCall F_read_number (mCons (mVar 4) mNil)) [4]) mNil)))
  (sSeq (sIf (mTNot (mTb (mCall F_is_pair (mCons (mVar 3) mNil)))) (sRet (mC .non)) sNil)
  (sAppend 1 (mVar 3)))))
  (sRet (mVar 1))))))
noncomputable def F__pairs_told : Fn := mkFn 5 1 B__pairs_told
noncomputable def B_Stairs__read : FS := (sSeq (sAsg (gSet 2) (mCall F__pairs_told (mCons (mVar 1) mNil)))
  (sSeq (sIf (mTb (m1H gIsN (mHs 2))) sBad sNil)
  (sSeq (sAsg (gSet 3) (mMakeV 0 "Stairs" F_Stairs____init__ (mStar (mVar 2) mNil)))
  (sSeq (sIf (mTb (m2H gNe (mV (mProp "Stairs" F_Stairs__text (mVar 3))) (mHs 1))) sBad sNil)
  (sRet (mVar 3))))))
noncomputable def F_Stairs__read : Fn := mkFn 4 2 B_Stairs__read
noncomputable def B__law_within : FS := (sRet (mMk gSumI (mCons (mCompL (mVar 0) (gSet 2) (mTb (mCall F__law_has (mCons (mVar 1) (mCons (mTup (mCons (m2H gIx (mHs 2) (mV (mC (.int 1)))) (mCons (m2H gIx (mHs 2) (mV (mC (.int 2)))) mNil))) mNil)))) (m2H gIx (mHs 2) (mV (mC (.int 3)))) [2]) mNil)))
noncomputable def F__law_within : Fn := mkFn 3 2 B__law_within
noncomputable def B_pair_of : FS := (sRet (mTup (mCons (m2H gIx (mHs 0) (mV (mC (.int 1)))) (mCons (m2H gIx (mHs 0) (mV (mC (.int 2)))) mNil))))
noncomputable def F_pair_of : Fn := mkFn 1 1 B_pair_of
noncomputable def B_supply : FS := (sRet (mMk gSumI (mCons (mCompL (mVar 0) (gSet 2) (mTb (mInO "Stairs" F_Stairs____contains__ (mCall F_pair_of (mCons (mVar 2) mNil)) (mVar 1))) (m2H gIx (mHs 2) (mV (mC (.int 3)))) [2]) mNil)))
noncomputable def F_supply : Fn := mkFn 3 2 B_supply
noncomputable def B_demand : FS := (sRet (mMk gSumI (mCons (mCompL (mVar 0) (gSet 2) (mTb (mInO "Stairs" F_Stairs____contains__ (mCall F_pair_of (mCons (mVar 2) mNil)) (mVar 1))) (m2H gIx (mHs 2) (mV (mC (.int 3)))) [2]) mNil)))
noncomputable def F_demand : Fn := mkFn 3 2 B_demand
noncomputable def B_surplus : FS := (sRet (mSub (mCall F_supply (mCons (mVar 0) (mCons (mVar 2) mNil))) (mCall F_demand (mCons (mVar 1) (mCons (mVar 2) mNil)))))
noncomputable def F_surplus : Fn := mkFn 3 3 B_surplus
noncomputable def B_law : FS := (sSeq (sForR (mCons (mMk gMax2 (mCons (mC (.int 2)) (mCons (mMk gMin2 (mCons (mC (.int 4)) (mCons (m1H gLen (mHs 0)) mNil))) mNil))) mNil) (gSet 1) (sSeq (sOwn 2 (mCall F__law_tape (mCons (mVar 0) (mCons (mVar 1) mNil))))
  (sSeq (sPar [3, 4] (mCons (mCallO F__law_goods 2 (mCons (mCallO F__law_pick 2 (mCons (mC (.int 9)) mNil)) mNil)) (mCons (mCallO F__law_goods 2 (mCons (mCallO F__law_pick 2 (mCons (mC (.int 9)) mNil)) mNil)) mNil)))
  (sSeq (sIf (mTb (m2H gEq (mV (mCallO F__law_pick 2 (mCons (mC (.int 3)) mNil))) (mV (mC (.int 0))))) (sPar [3, 4] (mCons (mAddA (mHs 3) (mV (mSl (mHs 3) mPn (mPs (mC (.int 1)))))) (mCons (mAddA (mV (mSl (mHs 4) (mPs (m1 gNeg (mC (.int 1)))) mPn)) (mHs 4)) mNil))) sNil)
  (sSeq (sAsg (gSet 5) (m1H gRepr (mV (mTup (mCons (mVar 3) (mCons (mVar 4) mNil))))))
  (sSeq (sForR (mCons (mC (.int 4)) mNil) (gSet 6) (sSeq (sAsg (gSet 7) (mCallO F__law_pairs 2 (mCons (mC (.int 5)) mNil)))
  (sSeq (sAsg (gSet 8) (mCall F__law_made (mCons (mVar 7) mNil)))
  (sSeq (sIf (mTb (m2H gEq (mV (mCallO F__law_pick 2 (mCons (mC (.int 2)) mNil))) (mV (mC (.int 0))))) (sAsg (gSet 8) (mCMeth "Stairs" F_Stairs__read (mCons (mProp "Stairs" F_Stairs__text (mVar 8)) mNil))) sNil)
  (sSeq (sAsg (gSet 9) (mLst (mCons (mCall F__law_within (mCons (mVar 3) (mCons (mVar 7) mNil))) (mCons (mCall F__law_within (mCons (mVar 4) (mCons (mVar 7) mNil))) mNil))))
  (sSeq (sIf (mTb (m2H gNe (mV (m1H gRepr (mV (mLst (mCons (mCall F_supply (mCons (mVar 3) (mCons (mVar 8) mNil))) (mCons (mCall F_demand (mCons (mVar 4) (mCons (mVar 8) mNil))) mNil)))))) (mV (m1H gRepr (mHs 9))))) (sRet (mC (.bl false))) sNil)
  (sIf (mTOr (mTb (m2H gNe (mV (m1H gRepr (mV (mCall F_surplus (mCons (mVar 3) (mCons (mVar 4) (mCons (mVar 8) mNil))))))) (mV (m1H gRepr (mV (mSub (m2H gIx (mHs 9) (mV (mC (.int 0)))) (m2H gIx (mHs 9) (mV (mC (.int 1)))))))))) (mTb (m2H gNe (mV (mProp "Stairs" F_Stairs__corners (mVar 8))) (mV (mCall F__law_corners (mCons (mVar 7) mNil)))))) (sRet (mC (.bl false))) sNil)))))))
  (sIf (mTb (m2H gNe (mV (m1H gRepr (mV (mTup (mCons (mVar 3) (mCons (mVar 4) mNil)))))) (mHs 5))) (sRet (mC (.bl false))) sNil)))))))
  (sRet (mAnd (m2H gEq (mV (mCall F_supply (mCons (mLst mNil) (mCons (mMakeS "Stairs" F_Stairs____init__ mNil) mNil)))) (mV (mC (.int 0)))) (m2H gEq (mV (mCall F_surplus (mCons (mLst mNil) (mCons (mLst mNil) (mCons (mMakeS "Stairs" F_Stairs____init__ (mCons (mTup (mCons (mC (.int 0)) (mCons (mC (.int 5)) mNil))) mNil)) mNil))))) (mV (mC (.int 0)))))))
noncomputable def F_law : Fn := mkFn 10 1 B_law
end K13

namespace K13
open PySem PySem.Spec PyProof.Rows L2 FL PL
set_option maxRecDepth 100000
set_option maxHeartbeats 8000000
set_option linter.all false
/-! ### reading a text -/
theorem p_number {i : Int} (h0 : 0 ≤ i) (h1 : i ≤ 1000000) : F_read_number [.sh (.str (ts i))] = some (.int i, [.un]) := by
  have a1 : gIsascii (.str (ts i)) = some (.bl true) := by simp [FL.gIsascii, ts_ascii h0]
  have a2 : gIsdigit (.str (ts i)) = some (.bl true) := by simp [FL.gIsdigit, ts_digit h0]
  have hl : (ts i).length ≤ 7 := by
    rw [TL.len_tl, tl_ts h0]
    exact TL.numL_len (k := 7) (by decide) (by omega)
  have a4 : gNe (.str (ts i)) (.str "0") = some (.bl (!decide (ts i = Str.ofString "0"))) := rfl
  have a5 : gStarts (.str (ts i)) (.str "0") = some (.bl (Txt.startswith (ts i) (Str.ofString "0"))) := rfl
  have a6 : gIntS [.str (ts i)] = some (.int i) := by
    show (match PySem.intText? (ts i) with
      | some n => if (ts i).length ≤ 640 then some (D.int n) else none
      | none => none) = _
    rw [ts_int h0 (by omega)]
    show (if (ts i).length ≤ 640 then some (D.int i) else none) = _
    rw [if_pos (by omega)]
  have hz := ts_zero h0
  have hs : i ≠ 0 → Txt.startswith (ts i) (Str.ofString "0") = false := fun h => ts_starts (by omega)
  have hg : ¬ (60 < ((ts i).length : Int)) := by omega
  have hm : (ts i).length ≤ 16777216 := by omega
  have hd : decide (ts i = Str.ofString "0") = decide (i = 0) := decide_eq_decide.mpr hz
  rw [hd] at a4
  unfold F_read_number B_read_number
  by_cases c : i = 0
  · rw [decide_eq_true c] at a4
    generalize ts i = T at a1 a2 hg hm a4 a5 a6 ⊢
    simp [a1, a2, hg, hm, a4, a6, mC, mVar, mHs, mV, FL.m2, m2H, FL.m1, m1H, mNil, mCons, mMk, mTb, mTNot, mTAnd, mTOr, mTru, mAnd, mOr, mIf, mChain, sSeq, sNil, sIf, sRet, sDrop, sAsg, gSet, gSets, gUn, lentS_un, lentS_sh, lentS_owt, deref, gI, gB, gNeg, gNot, gTupD, gLstD, szOk, truD, cMod, cDiv, mkFn, mkFnO, endF, FL.cut, FL.cutS, mCall, mCallO, mCallK, sOwn, sRetO, sRetV, gIx, gDGet, keyD, getK, putKD, sDPutD, mDispN, mDicN, gAdd, gMul, gSl, mPn, mPs, mSl, cutA, HT.sIx, gMin2, gMax2, gList, gTuple, gLen, gIsi, isObjD, kindN, isiB, sForL, sForT, sForR, itemsD, rgOk, sPar, cond_true, cond_false, sizeLine_eq, sAppend, mPop]
  · rw [decide_eq_false c] at a4
    rw [hs c] at a5
    generalize ts i = T at a1 a2 hg hm a4 a5 a6 ⊢
    simp [a1, a2, hg, hm, a4, a5, a6, mC, mVar, mHs, mV, FL.m2, m2H, FL.m1, m1H, mNil, mCons, mMk, mTb, mTNot, mTAnd, mTOr, mTru, mAnd, mOr, mIf, mChain, sSeq, sNil, sIf, sRet, sDrop, sAsg, gSet, gSets, gUn, lentS_un, lentS_sh, lentS_owt, deref, gI, gB, gNeg, gNot, gTupD, gLstD, szOk, truD, cMod, cDiv, mkFn, mkFnO, endF, FL.cut, FL.cutS, mCall, mCallO, mCallK, sOwn, sRetO, sRetV, gIx, gDGet, keyD, getK, putKD, sDPutD, mDispN, mDicN, gAdd, gMul, gSl, mPn, mPs, mSl, cutA, HT.sIx, gMin2, gMax2, gList, gTuple, gLen, gIsi, isObjD, kindN, isiB, sForL, sForT, sForR, itemsD, rgOk, sPar, cond_true, cond_false, sizeLine_eq, sAppend, mPop]
noncomputable def bR : FS := (sSeq (sAsg (gSet 3) (mMk gTuple (mCons (mCompL (m2 gSplit (mVar 2) (mC (.str " "))) (gSet 4) mYes (mCall F_read_number (mCons (mVar 4) mNil)) [4]) mNil)))
  (sSeq (sIf (mTNot (mTb (mCall F_is_pair (mCons (mVar 3) mNil)))) (sRet (mC .non)) sNil)
  (sAppend 1 (mVar 3))))
theorem turnR (T : D) (F : List D) (hF : F.length < 1000) (p : PP) (hp : Pr p) (x3 : Sl) (h3 : lentS x3 = false) :
    bR [.sh T, .ow true (.lst F), .sh (.str (tp p)), x3, .un] = some (.nx [.sh T, .ow true (.lst (F ++ [tupP p])), .sh (.str (tp p)), .sh (tupP p), .un]) := by
  obtain ⟨h0, h1, h2⟩ := id hp
  have n1 := p_number h0 (by omega : p.1 ≤ 1000000)
  have n2 := p_number (i := p.2) (by omega) h2
  have hl : (tp p).length + 2 ≤ sizeLine := by
    have := tp_len (sm_of hp)
    have e : (125 : Nat) ≤ sizeLine := by decide
    omega
  have s1 : gSplit (.str (tp p)) (.str " ") = some (.lst [.str (ts p.1), .str (ts p.2)]) := by
    unfold FL.gSplit
    have e : ((Str.ofString " ").length == 0) = false := by decide +kernel
    show (if ((Str.ofString " ").length == 0) = false ∧ (tp p).length + 2 ≤ sizeLine then some (D.lst ((Txt.split (tp p) (Str.ofString " ")).map .str)) else none) = _
    rw [if_pos ⟨e, hl⟩, split_tp hp]
    rfl
  have cm : compF [4] (gSet 4) mYes (mCall F_read_number (mCons (mVar 4) mNil)) [.str (ts p.1), .str (ts p.2)] [.sh T, .ow true (.lst F), .sh (.str (tp p)), x3, .un] = some ([.int p.1, .int p.2], [.sh T, .ow true (.lst F), .sh (.str (tp p)), x3, .un]) := by
    generalize ts p.1 = T1 at n1 ⊢
    generalize ts p.2 = T2 at n2 ⊢
    generalize tp p = TP
    simp [compF, freeE, isOw, wipeE, mYes, gSet, lentS_un, mCall, mCons, mNil, mVar, n1, n2, lend_nil, lend_cons, lendS_sh, lendS_un, lendS_ow, backCS_lendS, backCS_sh, backCS_un, backCS_ow, backC_nil, backC_cons, isOw_un, isOw_sh, wipeE, freeE]
  have q1 : sAsg (gSet 3) (mMk gTuple (mCons (mCompL (m2 gSplit (mVar 2) (mC (.str " "))) (gSet 4) mYes (mCall F_read_number (mCons (mVar 4) mNil)) [4]) mNil)) [.sh T, .ow true (.lst F), .sh (.str (tp p)), x3, .un] = some (.nx [.sh T, .ow true (.lst F), .sh (.str (tp p)), .sh (tupP p), .un]) := by
    generalize ts p.1 = T1 at s1 cm
    generalize ts p.2 = T2 at s1 cm
    generalize tp p = TP at s1 cm ⊢
    generalize mCall F_read_number (mCons (mVar 4) mNil) = W at cm ⊢
    simp [mCompL, s1, cm, cLen, h3, tupP, mC, mVar, mHs, mV, FL.m2, m2H, FL.m1, m1H, mNil, mCons, mMk, mTb, mTNot, mTAnd, mTOr, mTru, mAnd, mOr, mIf, mChain, sSeq, sNil, sIf, sRet, sDrop, sAsg, gSet, gSets, gUn, lentS_un, lentS_sh, lentS_owt, deref, gI, gB, gNeg, gNot, gTupD, gLstD, szOk, truD, cMod, cDiv, mkFn, mkFnO, endF, FL.cut, FL.cutS, mCall, mCallO, mCallK, sOwn, sRetO, sRetV, gIx, gDGet, keyD, getK, putKD, sDPutD, mDispN, mDicN, gAdd, gMul, gSl, mPn, mPs, mSl, cutA, HT.sIx, gMin2, gMax2, gList, gTuple, gLen, gIsi, isObjD, kindN, isiB, sForL, sForT, sForR, itemsD, rgOk, sPar, cond_true, cond_false, sizeLine_eq, sAppend, mPop]
  have q2 := is_pair_tup hp
  have hF' : F.length < 1000000 := by omega
  unfold bR
  rw [seq_nx q1]
  generalize tp p = TP
  generalize tupP p = V at q2 ⊢
  simp [q2, hF', sAppend, mC, mVar, mHs, mV, FL.m2, m2H, FL.m1, m1H, mNil, mCons, mMk, mTb, mTNot, mTAnd, mTOr, mTru, mAnd, mOr, mIf, mChain, sSeq, sNil, sIf, sRet, sDrop, sAsg, gSet, gSets, gUn, lentS_un, lentS_sh, lentS_owt, deref, gI, gB, gNeg, gNot, gTupD, gLstD, szOk, truD, cMod, cDiv, mkFn, mkFnO, endF, FL.cut, FL.cutS, mCall, mCallO, mCallK, sOwn, sRetO, sRetV, gIx, gDGet, keyD, getK, putKD, sDPutD, mDispN, mDicN, gAdd, gMul, gSl, mPn, mPs, mSl, cutA, HT.sIx, gMin2, gMax2, gList, gTuple, gLen, gIsi, isObjD, kindN, isiB, sForL, sForT, sForR, itemsD, rgOk, sPar, cond_true, cond_false, sizeLine_eq, sAppend, mPop]
theorem loopR (T : D) : ∀ (l F : List PP) (x2 x3 : Sl), lentS x2 = false → lentS x3 = false → (∀ p ∈ l, Pr p) → F.length + l.length < 900 →
    ∃ y2 y3, loopF (gSet 2) bR (l.map fun p => .str (tp p)) [.sh T, .ow true (.lst (F.map tupP)), x2, x3, .un] = some (.nx [.sh T, .ow true (.lst ((F ++ l).map tupP)), y2, y3, .un])
  | [], F, x2, x3, _, _, _, _ => ⟨x2, x3, by rw [List.append_nil]; rfl⟩
  | p :: l, F, x2, x3, h2, h3, hp, hl => by
    simp only [List.length_cons] at hl
    have t := turnR T (F.map tupP) (by simp; omega) p (hp p List.mem_cons_self) x3 h3
    obtain ⟨y2, y3, ih⟩ := loopR T l (F ++ [p]) (.sh (.str (tp p))) (.sh (tupP p)) rfl rfl (fun q hq => hp q (List.mem_cons_of_mem _ hq)) (by simp; omega)
    refine ⟨y2, y3, ?_⟩
    rw [List.map_cons]
    unfold loopF
    have e1 : gSet 2 (.str (tp p)) [.sh T, .ow true (.lst (F.map tupP)), x2, x3, .un] = some [.sh T, .ow true (.lst (F.map tupP)), .sh (.str (tp p)), x3, .un] := by simp [gSet, h2]
    rw [e1]
    show (match bR [.sh T, .ow true (.lst (F.map tupP)), .sh (.str (tp p)), x3, .un] with
      | some (.nx e2) => loopF (gSet 2) bR (l.map fun p => .str (tp p)) e2
      | some (.ct e2) => loopF (gSet 2) bR (l.map fun p => .str (tp p)) e2
      | some (.bk e2) => some (.nx e2)
      | some (.rt d e2) => some (.rt d e2)
      | some (.ro d e2) => some (.ro d e2)
      | none => none) = _
    rw [t]
    have ap : F.map tupP ++ [tupP p] = (F ++ [p]).map tupP := by rw [List.map_append]; rfl
    show loopF (gSet 2) bR (l.map fun p => .str (tp p)) [.sh T, .ow true (.lst (F.map tupP ++ [tupP p])), .sh (.str (tp p)), .sh (tupP p), .un] = _
    rw [ap, ih, List.append_assoc]
    rfl
theorem txt_len0 : ∀ l : List PP, (∀ p ∈ l, Pr p) → (TL.tl (Str.join (Str.ofString ", ") (l.map tp))).length ≤ l.length * 125
  | [], _ => by simp [TL.tl_join, TL.joinL]
  | [p], hp => by
    have := tp_len (sm_of (hp p (by simp)))
    rw [TL.len_tl] at this
    rw [TL.tl_join]
    show (TL.tl (tp p)).length ≤ _
    simp only [List.length_cons, List.length_nil]
    omega
  | p :: q :: r, hp => by
    have ih := txt_len0 (q :: r) fun x hx => hp x (List.mem_cons_of_mem _ hx)
    have := tp_len (sm_of (hp p (by simp)))
    rw [TL.len_tl] at this
    rw [TL.tl_join] at ih ⊢
    show (TL.tl (tp p) ++ (TL.tl (Str.ofString ", ") ++ TL.joinL (TL.tl (Str.ofString ", ")) (((q :: r).map tp).map TL.tl))).length ≤ _
    have e2 : (TL.tl (Str.ofString ", ")).length = 2 := by decide +kernel
    rw [List.length_append, List.length_append, e2]
    simp only [List.length_cons] at ih ⊢
    omega
theorem txt_len {c : List PP} (h : c.length ≤ 800) (hs : ∀ p ∈ c, Pr p) : (txt c).length + 2 ≤ sizeLine := by
  have := txt_len0 c hs
  rw [← TL.len_tl, ← TL.join_eq] at this
  have k : (100002 : Nat) ≤ sizeLine := by decide
  unfold txt
  omega
theorem p_told (c : List PP) (h : c.length ≤ 800) (hp : ∀ p ∈ c, Pr p) : F__pairs_told [.sh (.str (txt c))] = some (.lst (c.map tupP), [.un]) := by
  have eb : B__pairs_told = (sSeq (sIf (mTNot (mTb (m1H (gIsi "str") (mHs 0)))) (sRet (mC .non)) sNil) (sSeq (sOwn 1 (mMk gLstD mNil)) (sSeq (sIf (mTb (m2H gEq (mHs 0) (mV (mC (.str ""))))) (sRet (mVar 1)) sNil) (sSeq (sForL (m2 gSplit (mVar 0) (mC (.str ", "))) (gSet 2) bR) (sRet (mVar 1)))))) := rfl
  unfold F__pairs_told
  rw [eb]
  by_cases hc : c = []
  · subst hc
    have a1 := eq_same (Str.ofString "")
    rw [txt_nil]
    simp [a1, mC, mVar, mHs, mV, FL.m2, m2H, FL.m1, m1H, mNil, mCons, mMk, mTb, mTNot, mTAnd, mTOr, mTru, mAnd, mOr, mIf, mChain, sSeq, sNil, sIf, sRet, sDrop, sAsg, gSet, gSets, gUn, lentS_un, lentS_sh, lentS_owt, deref, gI, gB, gNeg, gNot, gTupD, gLstD, szOk, truD, cMod, cDiv, mkFn, mkFnO, endF, FL.cut, FL.cutS, mCall, mCallO, mCallK, sOwn, sRetO, sRetV, gIx, gDGet, keyD, getK, putKD, sDPutD, mDispN, mDicN, gAdd, gMul, gSl, mPn, mPs, mSl, cutA, HT.sIx, gMin2, gMax2, gList, gTuple, gLen, gIsi, isObjD, kindN, isiB, sForL, sForT, sForR, itemsD, rgOk, sPar, cond_true, cond_false, sizeLine_eq, sAppend, mPop]
  · have a1 : gEq (.str (txt c)) (.str "") = some (.bl false) := by
      show some (D.bl (decide (txt c = Str.ofString ""))) = _
      rw [decide_eq_false (txt_ne hc hp)]
    have s1 : gSplit (.str (txt c)) (.str ", ") = some (.lst (c.map fun p => .str (tp p))) := by
      unfold FL.gSplit
      have e : ((Str.ofString ", ").length == 0) = false := by decide +kernel
      show (if ((Str.ofString ", ").length == 0) = false ∧ (txt c).length + 2 ≤ sizeLine then some (D.lst ((Txt.split (txt c) (Str.ofString ", ")).map .str)) else none) = _
      rw [if_pos ⟨e, txt_len h hp⟩, split_txt hc hp, List.map_map]
      rfl
    obtain ⟨y2, y3, q⟩ := loopR (.str (txt c)) c [] .un .un rfl rfl hp (by simp; omega)
    rw [List.nil_append] at q
    have e0 : ([] : List PP).map tupP = [] := rfl
    rw [e0] at q
    generalize c.map tupP = G at q ⊢
    generalize (c.map fun p => D.str (tp p)) = GS at q s1
    generalize txt c = T at q s1 a1 ⊢
    generalize bR = W at q ⊢
    simp [a1, s1, q, mC, mVar, mHs, mV, FL.m2, m2H, FL.m1, m1H, mNil, mCons, mMk, mTb, mTNot, mTAnd, mTOr, mTru, mAnd, mOr, mIf, mChain, sSeq, sNil, sIf, sRet, sDrop, sAsg, gSet, gSets, gUn, lentS_un, lentS_sh, lentS_owt, deref, gI, gB, gNeg, gNot, gTupD, gLstD, szOk, truD, cMod, cDiv, mkFn, mkFnO, endF, FL.cut, FL.cutS, mCall, mCallO, mCallK, sOwn, sRetO, sRetV, gIx, gDGet, keyD, getK, putKD, sDPutD, mDispN, mDicN, gAdd, gMul, gSl, mPn, mPs, mSl, cutA, HT.sIx, gMin2, gMax2, gList, gTuple, gLen, gIsi, isObjD, kindN, isiB, sForL, sForT, sForR, itemsD, rgOk, sPar, cond_true, cond_false, sizeLine_eq, sAppend, mPop]
theorem p_read (c : List PP) (hc : Ok 800 c) : F_Stairs__read [.sh (.kls "Stairs"), .sh (.str (txt c))] = some (So c, [.un, .un]) := by
  have t := p_told c hc.len hc.pr
  have x := p_text c (by have := hc.len; omega) (OkC.sm (hc.c (by omega)))
  have e : corn c = c := asc_has (corn_asc _) hc.asc fun v => corn_has' _ v
  have mk := p_make c (by have := hc.len; omega) hc.pr (fa := mStar (mVar 2) mNil) (e := [.sh (.kls "Stairs"), .sh (.str (txt c)), .sh (.lst (c.map tupP)), .un]) (e1 := [.sh (.kls "Stairs"), .sh (.str (txt c)), .sh (.lst (c.map tupP)), .un]) (by simp [FL.mStar, FL.seqD, mVar, mNil])
  rw [e] at mk
  have mv : mMakeV 0 "Stairs" F_Stairs____init__ (mStar (mVar 2) mNil) [.sh (.kls "Stairs"), .sh (.str (txt c)), .sh (.lst (c.map tupP)), .un] = some (So c, [.sh (.kls "Stairs"), .sh (.str (txt c)), .sh (.lst (c.map tupP)), .un]) := by
    unfold mMakeV
    show (if (Str.ofString "Stairs") = (Str.ofString "Stairs") then _ else none) = _
    rw [if_pos rfl]
    exact mk
  have ns := ne_same (txt c)
  have pr : mProp "Stairs" F_Stairs__text (mVar 3) [.sh (.kls "Stairs"), .sh (.str (txt c)), .sh (.lst (c.map tupP)), .sh (So c)] = some (.str (txt c), [.sh (.kls "Stairs"), .sh (.str (txt c)), .sh (.lst (c.map tupP)), .sh (So c)]) := by
    have hv : mVar 3 [.sh (.kls "Stairs"), .sh (.str (txt c)), .sh (.lst (c.map tupP)), .sh (So c)] = some (So c, [.sh (.kls "Stairs"), .sh (.str (txt c)), .sh (.lst (c.map tupP)), .sh (So c)]) := rfl
    unfold mProp
    rw [hv]
    simp only [So] at x ⊢
    simp only [if_true, x]
  unfold F_Stairs__read B_Stairs__read
  generalize mMakeV 0 "Stairs" F_Stairs____init__ (mStar (mVar 2) mNil) = M1 at mv ⊢
  generalize mProp "Stairs" F_Stairs__text (mVar 3) = M2 at pr ⊢
  generalize So c = C at mv pr ⊢
  generalize txt c = T at t mv pr ns ⊢
  generalize c.map tupP = G at t mv pr
  simp [t, mv, pr, ns, gIsN, isNonD, mC, mVar, mHs, mV, FL.m2, m2H, FL.m1, m1H, mNil, mCons, mMk, mTb, mTNot, mTAnd, mTOr, mTru, mAnd, mOr, mIf, mChain, sSeq, sNil, sIf, sRet, sDrop, sAsg, gSet, gSets, gUn, lentS_un, lentS_sh, lentS_owt, deref, gI, gB, gNeg, gNot, gTupD, gLstD, szOk, truD, cMod, cDiv, mkFn, mkFnO, endF, FL.cut, FL.cutS, mCall, mCallO, mCallK, sOwn, sRetO, sRetV, gIx, gDGet, keyD, getK, putKD, sDPutD, mDispN, mDicN, gAdd, gMul, gSl, mPn, mPs, mSl, cutA, HT.sIx, gMin2, gMax2, gList, gTuple, gLen, gIsi, isObjD, kindN, isiB, sForL, sForT, sForR, itemsD, rgOk, sPar, cond_true, cond_false, sizeLine_eq, sAppend, mPop]
end K13

namespace K13
open PySem PySem.Spec PyProof.Rows L2 FL PL
set_option maxRecDepth 100000
set_option maxHeartbeats 8000000
set_option linter.all false
/-! ### goods -/
abbrev GG := Int × Int × Int × Int
def tupG (g : GG) : D := .tup [.int g.1, .int g.2.1, .int g.2.2.1, .int g.2.2.2]
def prG (g : GG) : PP := (g.2.1, g.2.2.1)
structure Gd (g : GG) : Prop where
  id0 : 0 ≤ g.1
  id1 : g.1 ≤ 100000
  pr : Pr (prG g)
  am0 : 0 < g.2.2.2
  am1 : g.2.2.2 ≤ 1000000000
  dy : g.2.1 ≤ 12 ∧ g.2.2.1 ≤ 20
noncomputable def bG : FS := (sSeq (sAsg (gSet 6) (mCallO F__law_pick 0 (mCons (mC (.int 13)) mNil)))
  (sSeq (sAsg (gSet 7) (mAddA (mHs 6) (mV (mCallO F__law_pick 0 (mCons (mCallO F__law_one_of 0 (mCons (mLst (mCons (mC (.int 1)) (mCons (mC (.int 4)) (mCons (mC (.int 9)) mNil)))) mNil)) mNil)))))
  (sAppend 3 (mTup (mCons (mAddA (mV (mC (.int 1))) (mV (mMulA (mHs 4) (mHs 5)))) (mCons (mVar 6) (mCons (mVar 7) (mCons (mAddA (mV (mC (.int 1))) (mV (mCallO F__law_pick 0 (mCons (mVar 2) mNil)))) mNil))))))))
theorem turnG (d m : Int) (ok : SackOk d m) (n k st : Int) (t : Nat) (F : List D) (hF : F.length < 1000) (hk : 0 < k ∧ k ≤ 1000000000) (hs : 0 < st ∧ st ≤ 1000) (ht : t ≤ 99) (x6 x7 : Sl) (h6 : lentS x6 = false) (h7 : lentS x7 = false) :
    ∃ g d' m' y6 y7, bG [.ow false (Sack d m), .sh (.int n), .sh (.int k), .ow true (.lst F), .sh (.int st), .sh (.int t), x6, x7] = some (.nx [.ow false (Sack d' m'), .sh (.int n), .sh (.int k), .ow true (.lst (F ++ [tupG g])), .sh (.int st), .sh (.int t), y6, y7]) ∧
      Gd g ∧ SackOk d' m' ∧ lentS y6 = false ∧ lentS y7 = false := by
  obtain ⟨r1, d1, m1, q1, a1, b1, ok⟩ := draws d m 13 ok (by decide) (by decide)
  obtain ⟨x2, d2, m2, q2, h2, ok⟩ := chooses d1 m1 [.int 1, .int 4, .int 9] ok (by simp) (by simp)
  obtain ⟨z2, rfl, a2, b2⟩ : ∃ z, x2 = .int z ∧ 0 < z ∧ z < 10 := by
    simp at h2
    rcases h2 with rfl | rfl | rfl <;> exact ⟨_, rfl, by omega, by omega⟩
  obtain ⟨r3, d3, m3, q3, a3, b3, ok⟩ := draws d2 m2 z2 ok a2 (by omega)
  obtain ⟨r4, d4, m4, q4, a4, b4, ok⟩ := draws d3 m3 k ok hk.1 (by omega)
  have hz : 0 ≤ st * t := Int.mul_nonneg (by omega) (by omega)
  have hz2 : st * t ≤ 1000 * 99 := Int.mul_le_mul hs.2 (by omega) (by omega) (by omega)
  refine ⟨(1 + st * t, r1, r1 + r3, 1 + r4), d4, m4, .sh (.int r1), .sh (.int (r1 + r3)), ?_, ⟨by simp only; omega, by simp only; omega, ⟨by simp only [prG]; omega, by simp only [prG]; omega, by simp only [prG]; omega⟩, by simp only; omega, by simp only; omega, by simp only; omega⟩, ok, rfl, rfl⟩
  have hF' : F.length < 1000000 := by omega
  simp only [tupG]
  have e0 : cMul st t = true := cMul_ok 64 64 (b64 (by omega)) (b64 (by omega)) (by decide)
  unfold bG
  have e1 : sAsg (gSet 6) (mCallO F__law_pick 0 (mCons (mC (.int 13)) mNil)) [.ow false (Sack d m), .sh (.int n), .sh (.int k), .ow true (.lst F), .sh (.int st), .sh (.int t), x6, x7] = some (.nx [.ow false (Sack d1 m1), .sh (.int n), .sh (.int k), .ow true (.lst F), .sh (.int st), .sh (.int t), .sh (.int r1), x7]) := by
    simp [q1, h6, mC, mVar, mHs, mV, FL.m2, m2H, FL.m1, m1H, mNil, mCons, mMk, mTb, mTNot, mTAnd, mTOr, mTru, mAnd, mOr, mIf, mChain, sSeq, sNil, sIf, sRet, sDrop, sAsg, gSet, gSets, gUn, lentS_un, lentS_sh, lentS_owt, deref, gI, gB, gNeg, gNot, gTupD, gLstD, szOk, truD, cMod, cDiv, mkFn, mkFnO, endF, FL.cut, FL.cutS, mCall, mCallO, mCallK, sOwn, sRetO, sRetV, gIx, gDGet, keyD, getK, putKD, sDPutD, mDispN, mDicN, gAdd, gMul, gSl, mPn, mPs, mSl, cutA, HT.sIx, gMin2, gMax2, gList, gTuple, gLen, gIsi, isObjD, kindN, isiB, sForL, sForT, sForR, itemsD, rgOk, sPar, cond_true, cond_false, sizeLine_eq, sAppend, mPop]
  have e2 : sAsg (gSet 7) (mAddA (mHs 6) (mV (mCallO F__law_pick 0 (mCons (mCallO F__law_one_of 0 (mCons (mLst (mCons (mC (.int 1)) (mCons (mC (.int 4)) (mCons (mC (.int 9)) mNil)))) mNil)) mNil)))) [.ow false (Sack d1 m1), .sh (.int n), .sh (.int k), .ow true (.lst F), .sh (.int st), .sh (.int t), .sh (.int r1), x7] = some (.nx [.ow false (Sack d3 m3), .sh (.int n), .sh (.int k), .ow true (.lst F), .sh (.int st), .sh (.int t), .sh (.int r1), .sh (.int (r1 + r3))]) := by
    simp [q2, q3, h7, mC, mVar, mHs, mV, FL.m2, m2H, FL.m1, m1H, mNil, mCons, mMk, mTb, mTNot, mTAnd, mTOr, mTru, mAnd, mOr, mIf, mChain, sSeq, sNil, sIf, sRet, sDrop, sAsg, gSet, gSets, gUn, lentS_un, lentS_sh, lentS_owt, deref, gI, gB, gNeg, gNot, gTupD, gLstD, szOk, truD, cMod, cDiv, mkFn, mkFnO, endF, FL.cut, FL.cutS, mCall, mCallO, mCallK, sOwn, sRetO, sRetV, gIx, gDGet, keyD, getK, putKD, sDPutD, mDispN, mDicN, gAdd, gMul, gSl, mPn, mPs, mSl, cutA, HT.sIx, gMin2, gMax2, gList, gTuple, gLen, gIsi, isObjD, kindN, isiB, sForL, sForT, sForR, itemsD, rgOk, sPar, cond_true, cond_false, sizeLine_eq, sAppend, mPop]
  rw [seq_nx e1, seq_nx e2]
  simp [q4, e0, hF', sAppend, mC, mVar, mHs, mV, FL.m2, m2H, FL.m1, m1H, mNil, mCons, mMk, mTb, mTNot, mTAnd, mTOr, mTru, mAnd, mOr, mIf, mChain, sSeq, sNil, sIf, sRet, sDrop, sAsg, gSet, gSets, gUn, lentS_un, lentS_sh, lentS_owt, deref, gI, gB, gNeg, gNot, gTupD, gLstD, szOk, truD, cMod, cDiv, mkFn, mkFnO, endF, FL.cut, FL.cutS, mCall, mCallO, mCallK, sOwn, sRetO, sRetV, gIx, gDGet, keyD, getK, putKD, sDPutD, mDispN, mDicN, gAdd, gMul, gSl, mPn, mPs, mSl, cutA, HT.sIx, gMin2, gMax2, gList, gTuple, gLen, gIsi, isObjD, kindN, isiB, sForL, sForT, sForR, itemsD, rgOk, sPar, cond_true, cond_false, sizeLine_eq, sAppend, mPop]
theorem loopG (n k st : Int) (hk : 0 < k ∧ k ≤ 1000000000) (hs : 0 < st ∧ st ≤ 1000) : ∀ (ds : List D), (∀ x ∈ ds, ∃ j : Nat, x = .int j ∧ j ≤ 99) → ∀ (F : List GG) (d m : Int) (x5 x6 x7 : Sl), SackOk d m → F.length + ds.length ≤ 100 → (∀ g ∈ F, Gd g) → lentS x5 = false → lentS x6 = false → lentS x7 = false →
    ∃ (G : List GG) (d' m' : Int) (y5 y6 y7 : Sl), loopF (gSet 5) bG ds [.ow false (Sack d m), .sh (.int n), .sh (.int k), .ow true (.lst (F.map tupG)), .sh (.int st), x5, x6, x7] = some (.nx [.ow false (Sack d' m'), .sh (.int n), .sh (.int k), .ow true (.lst (G.map tupG)), .sh (.int st), y5, y6, y7]) ∧
      G.length = F.length + ds.length ∧ (∀ g ∈ G, Gd g) ∧ SackOk d' m'
  | [], _, F, d, m, x5, x6, x7, ok, _, hF, _, _, _ => ⟨F, d, m, x5, x6, x7, rfl, rfl, hF, ok⟩
  | x :: ds, hx, F, d, m, x5, x6, x7, ok, hl, hF, h5, h6, h7 => by
    rw [List.length_cons] at hl
    obtain ⟨j, rfl, hj⟩ := hx x List.mem_cons_self
    obtain ⟨g, d1, m1, y6, y7, q, hg, ok1, k6, k7⟩ := turnG d m ok n k st j (F.map tupG) (by simp; omega) hk hs hj x6 x7 h6 h7
    obtain ⟨G, d2, m2, z5, z6, z7, q2, hG, hG2, ok2⟩ := loopG n k st hk hs ds (fun y hy => hx y (List.mem_cons_of_mem _ hy)) (F ++ [g]) d1 m1 (.sh (.int j)) y6 y7 ok1 (by simp; omega) (fun y hy => by
      rcases List.mem_append.mp hy with hy | hy
      · exact hF y hy
      · rw [List.mem_singleton] at hy; subst hy; exact hg) rfl k6 k7
    refine ⟨G, d2, m2, z5, z6, z7, ?_, by rw [hG]; simp; omega, hG2, ok2⟩
    unfold loopF
    have e1 : gSet 5 (.int (j : Int)) [.ow false (Sack d m), .sh (.int n), .sh (.int k), .ow true (.lst (F.map tupG)), .sh (.int st), x5, x6, x7] = some [.ow false (Sack d m), .sh (.int n), .sh (.int k), .ow true (.lst (F.map tupG)), .sh (.int st), .sh (.int j), x6, x7] := by simp [gSet, h5]
    rw [e1]
    show (match bG [.ow false (Sack d m), .sh (.int n), .sh (.int k), .ow true (.lst (F.map tupG)), .sh (.int st), .sh (.int j), x6, x7] with
      | some (.nx e2) => loopF (gSet 5) bG ds e2
      | some (.ct e2) => loopF (gSet 5) bG ds e2
      | some (.bk e2) => some (.nx e2)
      | some (.rt d e2) => some (.rt d e2)
      | some (.ro d e2) => some (.ro d e2)
      | none => none) = _
    rw [q]
    have ap : F.map tupG ++ [tupG g] = (F ++ [g]).map tupG := by rw [List.map_append]; rfl
    show loopF (gSet 5) bG ds [.ow false (Sack d1 m1), .sh (.int n), .sh (.int k), .ow true (.lst (F.map tupG ++ [tupG g])), .sh (.int st), .sh (.int j), y6, y7] = _
    rw [ap]
    exact q2
theorem p9 : cPow 10 9 = true := cPow_ok 64 70 (b64 (by decide)) (by decide) (by decide) (by decide)
theorem ge1 (d m d1 m1 k n : Int) (q1 : F__law_one_of [.ow false (Sack d m), .sh (.lst [.int 1, .int 4, .int 9, .int 9, .int 1000000000])] = some (.int k, [.ow false (Sack d1 m1), .un])) : sParO 2 3 (mCallO F__law_one_of 0 (mCons (mLst (mCons (mC (.int 1)) (mCons (mC (.int 4)) (mCons (mC (.int 9)) (mCons (mC (.int 9)) (mCons (mPow (mC (.int 10)) (mC (.int 9))) mNil)))))) mNil)) (mMk gLstD mNil) [.ow false (Sack d m), .sh (.int n), .un, .un, .un, .un, .un, .un] = some (.nx [.ow false (Sack d1 m1), .sh (.int n), .sh (.int k), .ow true (.lst []), .un, .un, .un, .un]) := by
  have pw : (10 : Int) ^ 9 = 1000000000 := by decide
  simp only [← pw] at q1
  generalize hP : (10 : Int) ^ 9 = P at q1
  simp [hP, FL.sParO, q1, p9, mC, mVar, mHs, mV, FL.m2, m2H, FL.m1, m1H, mNil, mCons, mMk, mTb, mTNot, mTAnd, mTOr, mTru, mAnd, mOr, mIf, mChain, sSeq, sNil, sIf, sRet, sDrop, sAsg, gSet, gSets, gUn, lentS_un, lentS_sh, lentS_owt, deref, gI, gB, gNeg, gNot, gTupD, gLstD, szOk, truD, cMod, cDiv, mkFn, mkFnO, endF, FL.cut, FL.cutS, mCall, mCallO, mCallK, sOwn, sRetO, sRetV, gIx, gDGet, keyD, getK, putKD, sDPutD, mDispN, mDicN, gAdd, gMul, gSl, mPn, mPs, mSl, cutA, HT.sIx, gMin2, gMax2, gList, gTuple, gLen, gIsi, isObjD, kindN, isiB, sForL, sForT, sForR, itemsD, rgOk, sPar, cond_true, cond_false, sizeLine_eq, sAppend, mPop]
theorem ge2 (d1 m1 d2 m2 k n st : Int) (q2 : F__law_one_of [.ow false (Sack d1 m1), .sh (.lst [.int 1, .int 7, .int 1000])] = some (.int st, [.ow false (Sack d2 m2), .un])) : sAsg (gSet 4) (mCallO F__law_one_of 0 (mCons (mLst (mCons (mC (.int 1)) (mCons (mC (.int 7)) (mCons (mC (.int 1000)) mNil)))) mNil)) [.ow false (Sack d1 m1), .sh (.int n), .sh (.int k), .ow true (.lst []), .un, .un, .un, .un] = some (.nx [.ow false (Sack d2 m2), .sh (.int n), .sh (.int k), .ow true (.lst []), .sh (.int st), .un, .un, .un]) := by
    simp [q2, mC, mVar, mHs, mV, FL.m2, m2H, FL.m1, m1H, mNil, mCons, mMk, mTb, mTNot, mTAnd, mTOr, mTru, mAnd, mOr, mIf, mChain, sSeq, sNil, sIf, sRet, sDrop, sAsg, gSet, gSets, gUn, lentS_un, lentS_sh, lentS_owt, deref, gI, gB, gNeg, gNot, gTupD, gLstD, szOk, truD, cMod, cDiv, mkFn, mkFnO, endF, FL.cut, FL.cutS, mCall, mCallO, mCallK, sOwn, sRetO, sRetV, gIx, gDGet, keyD, getK, putKD, sDPutD, mDispN, mDicN, gAdd, gMul, gSl, mPn, mPs, mSl, cutA, HT.sIx, gMin2, gMax2, gList, gTuple, gLen, gIsi, isObjD, kindN, isiB, sForL, sForT, sForR, itemsD, rgOk, sPar, cond_true, cond_false, sizeLine_eq, sAppend, mPop]
theorem fn_rt {n m : Nat} {fb : FS} {env e r : En} {d : D} (hl : env.length = m) (h : fb (env ++ List.replicate (n - m) .un) = some (.rt d e)) (hr : FL.cut m e = r) (hm : m ≤ e.length) : mkFn n m fb env = some (d, r) := by
  unfold mkFn
  rw [if_pos hl, h]
  show endF m d e = _
  unfold endF
  rw [if_pos hm, hr]
theorem goods (d m : Int) (ok : SackOk d m) (n : Nat) (hn : n ≤ 90) : ∃ (G : List GG) (d' m' : Int), F__law_goods [.ow false (Sack d m), .sh (.int n)] = some (.lst (G.map tupG), [.ow false (Sack d' m'), .un]) ∧ G.length = n ∧ (∀ g ∈ G, Gd g) ∧ SackOk d' m' := by
  have eb : B__law_goods = (sSeq (sParO 2 3 (mCallO F__law_one_of 0 (mCons (mLst (mCons (mC (.int 1)) (mCons (mC (.int 4)) (mCons (mC (.int 9)) (mCons (mC (.int 9)) (mCons (mPow (mC (.int 10)) (mC (.int 9))) mNil)))))) mNil)) (mMk gLstD mNil))
    (sSeq (sAsg (gSet 4) (mCallO F__law_one_of 0 (mCons (mLst (mCons (mC (.int 1)) (mCons (mC (.int 7)) (mCons (mC (.int 1000)) mNil)))) mNil)))
    (sSeq (sForR (mCons (mVar 1) mNil) (gSet 5) bG) (sRet (mVar 3))))) := rfl
  obtain ⟨x1, d1, m1, q1, h1, ok1⟩ := chooses d m [.int 1, .int 4, .int 9, .int 9, .int 1000000000] ok (by simp) (by simp)
  obtain ⟨k, rfl, hk⟩ : ∃ z, x1 = .int z ∧ (0 < z ∧ z ≤ 1000000000) := by
    simp at h1
    rcases h1 with rfl | rfl | rfl | rfl <;> exact ⟨_, rfl, by omega, by omega⟩
  obtain ⟨x2, d2, m2, q2, h2, ok2⟩ := chooses d1 m1 [.int 1, .int 7, .int 1000] ok1 (by simp) (by simp)
  obtain ⟨st, rfl, hs⟩ : ∃ z, x2 = .int z ∧ (0 < z ∧ z ≤ 1000) := by
    simp at h2
    rcases h2 with rfl | rfl | rfl <;> exact ⟨_, rfl, by omega, by omega⟩
  obtain ⟨G, d3, m3, y5, y6, y7, q3, hG, hG2, ok3⟩ := loopG n k st hk hs (FL.upTo n) (fun x hx => by obtain ⟨j, hj, rfl⟩ := mem_upTo hx; exact ⟨j, rfl, by omega⟩) [] d2 m2 .un .un .un ok2 (by simp [FL.upTo]; omega) (fun _ h => by cases h) rfl rfl rfl
  refine ⟨G, d3, m3, ?_, by rw [hG]; simp [FL.upTo], hG2, ok3⟩
  have e0 : ([] : List GG).map tupG = [] := rfl
  rw [e0] at q3
  have e1 := ge1 d m d1 m1 k n q1
  have e2 := ge2 d1 m1 d2 m2 k n st q2
  have rk : rgOk (n : Int) = true := by
    unfold rgOk
    simp only [Bool.and_eq_true, decide_eq_true_eq]
    omega
  have e3 : sForR (mCons (mVar 1) mNil) (gSet 5) bG [.ow false (Sack d2 m2), .sh (.int n), .sh (.int k), .ow true (.lst []), .sh (.int st), .un, .un, .un] = some (.nx [.ow false (Sack d3 m3), .sh (.int n), .sh (.int k), .ow true (.lst (G.map tupG)), .sh (.int st), y5, y6, y7]) := by
    unfold sForR
    have hm : mCons (mVar 1) mNil [.ow false (Sack d2 m2), .sh (.int n), .sh (.int k), .ow true (.lst []), .sh (.int st), .un, .un, .un] = some ([.int n], [.ow false (Sack d2 m2), .sh (.int n), .sh (.int k), .ow true (.lst []), .sh (.int st), .un, .un, .un]) := rfl
    rw [hm]
    show (if rgOk (n : Int) = true then loopF (gSet 5) bG (FL.upTo (n : Int).toNat) _ else none) = _
    rw [if_pos rk, Int.toNat_natCast]
    exact q3
  have h : B__law_goods [.ow false (Sack d m), .sh (.int n), .un, .un, .un, .un, .un, .un] = some (.rt (.lst (G.map tupG)) [.ow false (Sack d3 m3), .sh (.int n), .sh (.int k), .sh (.lst (G.map tupG)), .sh (.int st), y5, y6, y7]) := by
    rw [eb, seq_nx e1, seq_nx e2, seq_nx e3]
    rfl
  exact fn_rt (n := 8) (m := 2) rfl h rfl (by simp)
theorem ints_map (l : List GG) : intsD (l.map fun g => D.int g.2.2.2) = some (l.map fun g => g.2.2.2) := by
  have := ints_of_map (l.map fun g => g.2.2.2)
  rw [List.map_map] at this
  exact this
end K13

namespace K13
open PySem PySem.Spec PyProof.Rows L2 FL PL
set_option maxRecDepth 100000
set_option maxHeartbeats 8000000
set_option linter.all false
/-! ### sums over a staircase -/
def sumIn (gs : List GG) (f : PP → Bool) : Int := ((gs.filter fun g => f (prG g)).map fun g => g.2.2.2).sum
theorem con (c : List PP) (hc : Asc c) (v : PP) (hv : Pr v) : F_Stairs____contains__ [.sh (So c), .sh (tupP v)] = some (.bl (c.any (inP v)), [.un, .un]) := by
  have q := contains c v hv
  rw [agree] at q
  have e : corn c = c := asc_has (corn_asc _) hc fun v => corn_has' _ v
  rw [st_so, e] at q
  exact q
theorem pair_of (g : GG) : F_pair_of [.sh (tupG g)] = some (tupP (prG g), [.un]) := by
  obtain ⟨a, b, c, d⟩ := g
  have i1 : atI [D.int a, D.int b, D.int c, D.int d] 1 = some (D.int b) := rfl
  have i2 : atI [D.int a, D.int b, D.int c, D.int d] 2 = some (D.int c) := rfl
  simp [F_pair_of, B_pair_of, tupG, tupP, prG, i1, i2, mC, mVar, mHs, mV, FL.m2, m2H, FL.m1, m1H, mNil, mCons, mMk, mTb, mTNot, mTAnd, mTOr, mTru, mAnd, mOr, mIf, mChain, sSeq, sNil, sIf, sRet, sDrop, sAsg, gSet, gSets, gUn, lentS_un, lentS_sh, lentS_owt, deref, gI, gB, gNeg, gNot, gTupD, gLstD, szOk, truD, cMod, cDiv, mkFn, mkFnO, endF, FL.cut, FL.cutS, mCall, mCallO, mCallK, sOwn, sRetO, sRetV, gIx, gDGet, keyD, getK, putKD, sDPutD, mDispN, mDicN, gAdd, gMul, gSl, mPn, mPs, mSl, cutA, HT.sIx, gMin2, gMax2, gList, gTuple, gLen, gIsi, isObjD, kindN, isiB, sForL, sForT, sForR, itemsD, rgOk, sPar, cond_true, cond_false, sizeLine_eq, sAppend, mPop]
noncomputable def elW : M D := (m2H gIx (mHs 2) (mV (mC (.int 3))))
noncomputable def tW : M Bool := (mTb (mCall F__law_has (mCons (mVar 1) (mCons (mTup (mCons (m2H gIx (mHs 2) (mV (mC (.int 1)))) (mCons (m2H gIx (mHs 2) (mV (mC (.int 2)))) mNil))) mNil))))
noncomputable def tU : M Bool := (mTb (mInO "Stairs" F_Stairs____contains__ (mCall F_pair_of (mCons (mVar 2) mNil)) (mVar 1)))
theorem el_w (A B : D) (g : GG) : elW [.sh A, .sh B, .sh (tupG g)] = some (.int g.2.2.2, [.sh A, .sh B, .sh (tupG g)]) := by
  obtain ⟨a, b, c, d⟩ := g
  have i3 : atI [D.int a, D.int b, D.int c, D.int d] 3 = some (D.int d) := rfl
  simp [elW, tupG, i3, mC, mVar, mHs, mV, FL.m2, m2H, FL.m1, m1H, mNil, mCons, mMk, mTb, mTNot, mTAnd, mTOr, mTru, mAnd, mOr, mIf, mChain, sSeq, sNil, sIf, sRet, sDrop, sAsg, gSet, gSets, gUn, lentS_un, lentS_sh, lentS_owt, deref, gI, gB, gNeg, gNot, gTupD, gLstD, szOk, truD, cMod, cDiv, mkFn, mkFnO, endF, FL.cut, FL.cutS, mCall, mCallO, mCallK, sOwn, sRetO, sRetV, gIx, gDGet, keyD, getK, putKD, sDPutD, mDispN, mDicN, gAdd, gMul, gSl, mPn, mPs, mSl, cutA, HT.sIx, gMin2, gMax2, gList, gTuple, gLen, gIsi, isObjD, kindN, isiB, sForL, sForT, sForR, itemsD, rgOk, sPar, cond_true, cond_false, sizeLine_eq, sAppend, mPop]
theorem tst_w (A : D) (ps : List PP) (h : ps.length ≤ 5) (g : GG) : tW [.sh A, .sh (.lst (ps.map tupP)), .sh (tupG g)] = some (ps.any (inP (prG g)), [.sh A, .sh (.lst (ps.map tupP)), .sh (tupG g)]) := by
  have q := has ps h (prG g)
  obtain ⟨a, b, c, d⟩ := g
  have i1 : atI [D.int a, D.int b, D.int c, D.int d] 1 = some (D.int b) := rfl
  have i2 : atI [D.int a, D.int b, D.int c, D.int d] 2 = some (D.int c) := rfl
  simp only [prG] at q ⊢
  simp only [tupP] at q
  generalize ps.any (inP (b, c)) = B at q ⊢
  generalize List.map tupP ps = P at q ⊢
  simp [tW, tupG, i1, i2, q, mC, mVar, mHs, mV, FL.m2, m2H, FL.m1, m1H, mNil, mCons, mMk, mTb, mTNot, mTAnd, mTOr, mTru, mAnd, mOr, mIf, mChain, sSeq, sNil, sIf, sRet, sDrop, sAsg, gSet, gSets, gUn, lentS_un, lentS_sh, lentS_owt, deref, gI, gB, gNeg, gNot, gTupD, gLstD, szOk, truD, cMod, cDiv, mkFn, mkFnO, endF, FL.cut, FL.cutS, mCall, mCallO, mCallK, sOwn, sRetO, sRetV, gIx, gDGet, keyD, getK, putKD, sDPutD, mDispN, mDicN, gAdd, gMul, gSl, mPn, mPs, mSl, cutA, HT.sIx, gMin2, gMax2, gList, gTuple, gLen, gIsi, isObjD, kindN, isiB, sForL, sForT, sForR, itemsD, rgOk, sPar, cond_true, cond_false, sizeLine_eq, sAppend, mPop]
theorem tst_u (A : D) (c : List PP) (hc : Asc c) (g : GG) (hg : Pr (prG g)) : tU [.sh A, .sh (So c), .sh (tupG g)] = some (c.any (inP (prG g)), [.sh A, .sh (So c), .sh (tupG g)]) := by
  have q := con c hc (prG g) hg
  have q2 := pair_of g
  generalize c.any (inP (prG g)) = B at q ⊢
  generalize tupP (prG g) = V at q q2
  generalize tupG g = G at q2 ⊢
  simp only [So] at q ⊢
  generalize D.lst (List.map tupP c) = C at q ⊢
  simp [tU, mInO, q, q2, mC, mVar, mHs, mV, FL.m2, m2H, FL.m1, m1H, mNil, mCons, mMk, mTb, mTNot, mTAnd, mTOr, mTru, mAnd, mOr, mIf, mChain, sSeq, sNil, sIf, sRet, sDrop, sAsg, gSet, gSets, gUn, lentS_un, lentS_sh, lentS_owt, deref, gI, gB, gNeg, gNot, gTupD, gLstD, szOk, truD, cMod, cDiv, mkFn, mkFnO, endF, FL.cut, FL.cutS, mCall, mCallO, mCallK, sOwn, sRetO, sRetV, gIx, gDGet, keyD, getK, putKD, sDPutD, mDispN, mDicN, gAdd, gMul, gSl, mPn, mPs, mSl, cutA, HT.sIx, gMin2, gMax2, gList, gTuple, gLen, gIsi, isObjD, kindN, isiB, sForL, sForT, sForR, itemsD, rgOk, sPar, cond_true, cond_false, sizeLine_eq, sAppend, mPop]
theorem sum_c {A B : D} {gs : List GG} {f : PP → Bool} {t : M Bool} (h : ∀ g ∈ gs, t [.sh A, .sh B, .sh (tupG g)] = some (f (prG g), [.sh A, .sh B, .sh (tupG g)])) :
    compF [2] (gSet 2) t elW (gs.map tupG) [.sh A, .sh B, .un] = some ((gs.filter fun g => f (prG g)).map (fun g => D.int g.2.2.2), [.sh A, .sh B, .un]) := by
  refine comp_map (by simp [lend_nil, lend_cons, lendS_sh, lendS_un, lendS_ow, backCS_lendS, backCS_sh, backCS_un, backCS_ow, backC_nil, backC_cons, isOw_un, isOw_sh, wipeE, freeE]) gs fun g hg => ⟨?_⟩
  refine ⟨[.sh A, .sh B, .sh (tupG g)], [.sh A, .sh B, .sh (tupG g)], ?_, h g hg, ?_, fun _ => ⟨[.sh A, .sh B, .sh (tupG g)], el_w A B g, ?_⟩⟩
  · simp [gSet, lentS_un, lend_nil, lend_cons, lendS_sh, lendS_un, lendS_ow, backCS_lendS, backCS_sh, backCS_un, backCS_ow, backC_nil, backC_cons, isOw_un, isOw_sh, wipeE, freeE]
  · simp [lend_nil, lend_cons, lendS_sh, lendS_un, lendS_ow, backCS_lendS, backCS_sh, backCS_un, backCS_ow, backC_nil, backC_cons, isOw_un, isOw_sh, wipeE, freeE]
  · simp [lend_nil, lend_cons, lendS_sh, lendS_un, lendS_ow, backCS_lendS, backCS_sh, backCS_un, backCS_ow, backC_nil, backC_cons, isOw_un, isOw_sh, wipeE, freeE]
theorem sum_f {B : D} {gs : List GG} {f : PP → Bool} {t : M Bool} (hl : gs.length ≤ 1000) (h : ∀ g ∈ gs, t [.sh (.lst (gs.map tupG)), .sh B, .sh (tupG g)] = some (f (prG g), [.sh (.lst (gs.map tupG)), .sh B, .sh (tupG g)])) :
    mkFn 3 2 (sRet (mMk gSumI (mCons (mCompL (mVar 0) (gSet 2) t elW [2]) mNil))) [.sh (.lst (gs.map tupG)), .sh B] = some (.int (sumIn gs f), [.un, .un]) := by
  have q := sum_c h
  have hc : cLen ((gs.filter fun g => f (prG g)).map (fun g => D.int g.2.2.2)).length = true := by
    have := List.length_filter_le (fun g => f (prG g)) gs
    unfold cLen; simp; omega
  have s : gSumI [.lst ((gs.filter fun g => f (prG g)).map (fun g => D.int g.2.2.2))] = some (.int (sumIn gs f)) := by
    unfold gSumI
    show (match intsD ((gs.filter fun g => f (prG g)).map (fun g => D.int g.2.2.2)) with
      | some ns => some (D.int ns.sum)
      | none => none) = _
    rw [ints_map]
    rfl
  generalize (gs.filter fun g => f (prG g)).map (fun g => D.int g.2.2.2) = W at q hc s
  generalize gs.map tupG = G at q ⊢
  generalize elW = EL at q ⊢
  have hm : mCons (mCompL (mVar 0) (gSet 2) t EL [2]) mNil [.sh (.lst G), .sh B, .un] = some ([.lst W], [.sh (.lst G), .sh B, .un]) := by
    simp [mCompL, q, hc, mC, mVar, mHs, mV, FL.m2, m2H, FL.m1, m1H, mNil, mCons, mMk, mTb, mTNot, mTAnd, mTOr, mTru, mAnd, mOr, mIf, mChain, sSeq, sNil, sIf, sRet, sDrop, sAsg, gSet, gSets, gUn, lentS_un, lentS_sh, lentS_owt, deref, gI, gB, gNeg, gNot, gTupD, gLstD, szOk, truD, cMod, cDiv, mkFn, mkFnO, endF, FL.cut, FL.cutS, mCall, mCallO, mCallK, sOwn, sRetO, sRetV, gIx, gDGet, keyD, getK, putKD, sDPutD, mDispN, mDicN, gAdd, gMul, gSl, mPn, mPs, mSl, cutA, HT.sIx, gMin2, gMax2, gList, gTuple, gLen, gIsi, isObjD, kindN, isiB, sForL, sForT, sForR, itemsD, rgOk, sPar, cond_true, cond_false, sizeLine_eq, sAppend, mPop]
  refine fn_rt (e := [.sh (.lst G), .sh B, .un]) rfl ?_ rfl (by simp)
  show sRet (mMk gSumI (mCons (mCompL (mVar 0) (gSet 2) t EL [2]) mNil)) [.sh (.lst G), .sh B, .un] = _
  generalize mCons (mCompL (mVar 0) (gSet 2) t EL [2]) mNil = MM at hm ⊢
  simp [sRet, mMk, hm, s]
theorem p_within2 (gs : List GG) (hl : gs.length ≤ 1000) (ps : List PP) (h : ps.length ≤ 5) : F__law_within [.sh (.lst (gs.map tupG)), .sh (.lst (ps.map tupP))] = some (.int (sumIn gs fun v => ps.any (inP v)), [.un, .un]) :=
  sum_f (t := tW) hl fun g _ => tst_w _ ps h g
theorem p_supply (gs : List GG) (hl : gs.length ≤ 1000) (hg : ∀ g ∈ gs, Gd g) (c : List PP) (hc : Asc c) : F_supply [.sh (.lst (gs.map tupG)), .sh (So c)] = some (.int (sumIn gs fun v => c.any (inP v)), [.un, .un]) :=
  sum_f (t := tU) (f := fun v => c.any (inP v)) hl fun g h => tst_u _ c hc g (hg g h).pr
theorem p_demand (gs : List GG) (hl : gs.length ≤ 1000) (hg : ∀ g ∈ gs, Gd g) (c : List PP) (hc : Asc c) : F_demand [.sh (.lst (gs.map tupG)), .sh (So c)] = some (.int (sumIn gs fun v => c.any (inP v)), [.un, .un]) :=
  p_supply gs hl hg c hc
theorem p_surplus (ls os : List GG) (hl : ls.length ≤ 1000) (ho : os.length ≤ 1000) (hg : ∀ g ∈ ls, Gd g) (hg2 : ∀ g ∈ os, Gd g) (c : List PP) (hc : Asc c) : F_surplus [.sh (.lst (ls.map tupG)), .sh (.lst (os.map tupG)), .sh (So c)] =
    some (.int ((sumIn ls fun v => c.any (inP v)) - (sumIn os fun v => c.any (inP v))), [.un, .un, .un]) := by
  have q1 := p_supply ls hl hg c hc
  have q2 := p_demand os ho hg2 c hc
  generalize (sumIn ls fun v => c.any (inP v)) = A at q1 ⊢
  generalize (sumIn os fun v => c.any (inP v)) = B at q2 ⊢
  generalize ls.map tupG = L at q1 ⊢
  generalize os.map tupG = O at q2 ⊢
  generalize So c = C at q1 q2 ⊢
  simp [F_surplus, B_surplus, q1, q2, mC, mVar, mHs, mV, FL.m2, m2H, FL.m1, m1H, mNil, mCons, mMk, mTb, mTNot, mTAnd, mTOr, mTru, mAnd, mOr, mIf, mChain, sSeq, sNil, sIf, sRet, sDrop, sAsg, gSet, gSets, gUn, lentS_un, lentS_sh, lentS_owt, deref, gI, gB, gNeg, gNot, gTupD, gLstD, szOk, truD, cMod, cDiv, mkFn, mkFnO, endF, FL.cut, FL.cutS, mCall, mCallO, mCallK, sOwn, sRetO, sRetV, gIx, gDGet, keyD, getK, putKD, sDPutD, mDispN, mDicN, gAdd, gMul, gSl, mPn, mPs, mSl, cutA, HT.sIx, gMin2, gMax2, gList, gTuple, gLen, gIsi, isObjD, kindN, isiB, sForL, sForT, sForR, itemsD, rgOk, sPar, cond_true, cond_false, sizeLine_eq, sAppend, mPop]
theorem sum_bd (gs : List GG) (hg : ∀ g ∈ gs, Gd g) (f : PP → Bool) : 0 ≤ sumIn gs f ∧ sumIn gs f ≤ gs.length * 1000000000 := by
  induction gs with
  | nil => simp [sumIn]
  | cons g l ih =>
    obtain ⟨a, b⟩ := ih fun x hx => hg x (List.mem_cons_of_mem _ hx)
    have h := hg g List.mem_cons_self
    have h1 := h.am0
    have h2 := h.am1
    unfold sumIn at a b ⊢
    rw [List.filter_cons]
    split
    · rw [List.map_cons, List.sum_cons, List.length_cons]
      push_cast
      omega
    · rw [List.length_cons]
      push_cast
      omega
theorem any_corn (ps : List PP) (v : PP) : (corn ps).any (inP v) = ps.any (inP v) := by
  rw [Bool.eq_iff_iff]
  have h : ∀ l : List PP, l.any (inP v) = true ↔ Has l v := fun l => by simp [Has, inP]
  rw [h, h, corn_has']
theorem rp_goods {gs : List GG} (h : gs.length ≤ 1000) (hg : ∀ g ∈ gs, Gd g) : smD (.lst (gs.map tupG)) ∧ bkD (.lst (gs.map tupG)) = 5 * gs.length ∧ dpD (.lst (gs.map tupG)) ≤ 2 := by
  have key : ∀ l : List GG, (∀ g ∈ l, Gd g) → smDs (l.map tupG) ∧ bkDs (l.map tupG) = 5 * l.length ∧ dpDs (l.map tupG) ≤ 1 := fun l => by
    induction l with
    | nil => intro _; exact ⟨by simp [smDs], by simp [bkDs], by simp [dpDs]⟩
    | cons p l ih =>
      intro hp
      obtain ⟨a, b, c⟩ := ih fun q hq => hp q (List.mem_cons_of_mem _ hq)
      have g := hp p List.mem_cons_self
      obtain ⟨p0, p1, p2⟩ := g.pr
      simp only [prG] at p0 p1 p2
      refine ⟨?_, ?_, ?_⟩
      · rw [List.map_cons]
        show smD (tupG p) ∧ smDs (l.map tupG)
        refine ⟨⟨smI ?_ ?_, smI ?_ ?_, smI ?_ ?_, smI ?_ ?_, trivial⟩, a⟩ <;> first | (have := g.id0; have := g.id1; omega) | (have := g.am0; have := g.am1; omega) | omega
      · rw [List.map_cons]
        show bkD (tupG p) + 1 + bkDs (l.map tupG) = _
        have : bkD (tupG p) = 4 := rfl
        rw [this, b, List.length_cons]
        omega
      · rw [List.map_cons]
        show max (dpD (tupG p)) (dpDs (l.map tupG)) ≤ 1
        have : dpD (tupG p) = 1 := rfl
        omega
  obtain ⟨a, b, d⟩ := key gs hg
  refine ⟨a, b, ?_⟩
  show dpDs (gs.map tupG) + 1 ≤ 2
  omega
theorem r_goods {ls os : List GG} (h1 : ls.length ≤ 1000) (h2 : os.length ≤ 1000) (hg : ∀ g ∈ ls, Gd g) (hg2 : ∀ g ∈ os, Gd g) : gRepr (.tup [.lst (ls.map tupG), .lst (os.map tupG)]) = some (.str (shT (.tup [.lst (ls.map tupG), .lst (os.map tupG)]))) := by
  obtain ⟨a, b, c⟩ := rp_goods h1 hg
  obtain ⟨a2, b2, c2⟩ := rp_goods h2 hg2
  refine rp_ok ⟨⟨a, a2, trivial⟩, ?_, ?_⟩
  · show bkD (.lst (ls.map tupG)) + 1 + (bkD (.lst (os.map tupG)) + 1 + 0) ≤ 100000
    omega
  · show max (dpD (.lst (ls.map tupG))) (max (dpD (.lst (os.map tupG))) 0) + 1 ≤ 60
    omega
theorem cutA_map {α β : Type} (f : α → β) (xs : List α) (lo hi : Option Int) : cutA (xs.map f) lo hi = (cutA xs lo hi).map f := by
  unfold cutA
  rw [List.length_map, List.map_take, List.map_drop]
theorem mem_cutA {α : Type} {xs : List α} {lo hi : Option Int} {x : α} (h : x ∈ cutA xs lo hi) : x ∈ xs := List.mem_of_mem_drop (List.mem_of_mem_take h)
theorem len_cutA {α : Type} (xs : List α) (lo hi : Option Int) : (cutA xs lo hi).length ≤ xs.length := by
  unfold cutA
  rw [List.length_take, List.length_drop]
  omega
end K13

namespace K13
open PySem PySem.Spec PyProof.Rows L2 FL PL
set_option maxRecDepth 100000
set_option maxHeartbeats 8000000
set_option linter.all false
theorem prop_so (φ : Fn) (c : List PP) (r : D) (e' : En) (fa : M D) (e e1 : En) (h : fa e = some (So c, e1)) (q : φ [.sh (So c)] = some (r, e')) : mProp "Stairs" φ fa e = some (r, e1) := by
  unfold mProp
  rw [h]
  simp only [So] at q ⊢
  simp only [if_true, q]
noncomputable def no : FS := sRet (mC (.bl false))
noncomputable def i1 : FS := sAsg (gSet 7) (mCallO F__law_pairs 2 (mCons (mC (.int 5)) mNil))
noncomputable def i2 : FS := sAsg (gSet 8) (mCall F__law_made (mCons (mVar 7) mNil))
noncomputable def i3 : FS := sIf (mTb (m2H gEq (mV (mCallO F__law_pick 2 (mCons (mC (.int 2)) mNil))) (mV (mC (.int 0))))) (sAsg (gSet 8) (mCMeth "Stairs" F_Stairs__read (mCons (mProp "Stairs" F_Stairs__text (mVar 8)) mNil))) sNil
noncomputable def i4 : FS := sAsg (gSet 9) (mLst (mCons (mCall F__law_within (mCons (mVar 3) (mCons (mVar 7) mNil))) (mCons (mCall F__law_within (mCons (mVar 4) (mCons (mVar 7) mNil))) mNil)))
noncomputable def t5 : M Bool := (mTb (m2H gNe (mV (m1H gRepr (mV (mLst (mCons (mCall F_supply (mCons (mVar 3) (mCons (mVar 8) mNil))) (mCons (mCall F_demand (mCons (mVar 4) (mCons (mVar 8) mNil))) mNil)))))) (mV (m1H gRepr (mHs 9)))))
noncomputable def t6a : M Bool := (mTb (m2H gNe (mV (m1H gRepr (mV (mCall F_surplus (mCons (mVar 3) (mCons (mVar 4) (mCons (mVar 8) mNil))))))) (mV (m1H gRepr (mV (mSub (m2H gIx (mHs 9) (mV (mC (.int 0)))) (m2H gIx (mHs 9) (mV (mC (.int 1))))))))))
noncomputable def t6b : M Bool := (mTb (m2H gNe (mV (mProp "Stairs" F_Stairs__corners (mVar 8))) (mV (mCall F__law_corners (mCons (mVar 7) mNil)))))
noncomputable def bT : FS := (sSeq i1 (sSeq i2 (sSeq i3 (sSeq i4 (sSeq (sIf t5 no sNil) (sIf (mTOr t6a t6b) no sNil))))))
noncomputable def o2 : FS := (sPar [3, 4] (mCons (mCallO F__law_goods 2 (mCons (mCallO F__law_pick 2 (mCons (mC (.int 9)) mNil)) mNil)) (mCons (mCallO F__law_goods 2 (mCons (mCallO F__law_pick 2 (mCons (mC (.int 9)) mNil)) mNil)) mNil)))
noncomputable def o3 : FS := (sIf (mTb (m2H gEq (mV (mCallO F__law_pick 2 (mCons (mC (.int 3)) mNil))) (mV (mC (.int 0))))) (sPar [3, 4] (mCons (mAddA (mHs 3) (mV (mSl (mHs 3) mPn (mPs (mC (.int 1)))))) (mCons (mAddA (mV (mSl (mHs 4) (mPs (m1 gNeg (mC (.int 1)))) mPn)) (mHs 4)) mNil))) sNil)
noncomputable def o4 : FS := (sAsg (gSet 5) (m1H gRepr (mV (mTup (mCons (mVar 3) (mCons (mVar 4) mNil))))))
noncomputable def o5 : FS := sForR (mCons (mC (.int 4)) mNil) (gSet 6) bT
noncomputable def t7 : M Bool := (mTb (m2H gNe (mV (m1H gRepr (mV (mTup (mCons (mVar 3) (mCons (mVar 4) mNil)))))) (mHs 5)))
noncomputable def b1 : FS := (sSeq (sOwn 2 (mCall F__law_tape (mCons (mVar 0) (mCons (mVar 1) mNil)))) (sSeq o2 (sSeq o3 (sSeq o4 (sSeq o5 (sIf t7 no sNil))))))
noncomputable def fin : M D := (mAnd (m2H gEq (mV (mCall F_supply (mCons (mLst mNil) (mCons (mMakeS "Stairs" F_Stairs____init__ mNil) mNil)))) (mV (mC (.int 0)))) (m2H gEq (mV (mCall F_surplus (mCons (mLst mNil) (mCons (mLst mNil) (mCons (mMakeS "Stairs" F_Stairs____init__ (mCons (mTup (mCons (mC (.int 0)) (mCons (mC (.int 5)) mNil))) mNil)) mNil))))) (mV (mC (.int 0)))))
theorem eb : B_law = (sSeq (sForR (mCons (mMk gMax2 (mCons (mC (.int 2)) (mCons (mMk gMin2 (mCons (mC (.int 4)) (mCons (m1H gLen (mHs 0)) mNil))) mNil))) mNil) (gSet 1) b1) (sRet fin)) := rfl
def E0' (ns : List Int) (st d m : Int) (L O : List GG) (K : Str) (x6 x7 x8 x9 : Sl) : En := [.sh (.scr ns), .sh (.int st), .ow true (Sack d m), .sh (.lst (L.map tupG)), .sh (.lst (O.map tupG)), .sh (.str K), x6, x7, x8, x9]
structure Ls (L : List GG) : Prop where
  len : L.length ≤ 40
  gd : ∀ g ∈ L, Gd g
theorem turnT (ns : List Int) (st d m : Int) (ok : SackOk d m) (L O : List GG) (hL : Ls L) (hO : Ls O) (K : Str) (x6 x7 x8 x9 : Sl) (h7 : lentS x7 = false) (h8 : lentS x8 = false) (h9 : lentS x9 = false) :
    ∃ d' m' y7 y8 y9, bT (E0' ns st d m L O K x6 x7 x8 x9) = some (.nx (E0' ns st d' m' L O K x6 y7 y8 y9)) ∧ SackOk d' m' ∧ lentS y7 = false ∧ lentS y8 = false ∧ lentS y9 = false := by
  obtain ⟨ps, d1, m1, q1, hl, hp, ok1⟩ := law_pairs d m ok
  have q2 := made ps hl hp
  rw [st_so] at q2
  have hc := ok_corn hl hp
  obtain ⟨r, d2, m2, q3, a3, b3, ok2⟩ := draws d1 m1 2 ok1 (by decide) (by decide)
  have w1 := p_within2 L (by have := hL.len; omega) ps hl
  have w2 := p_within2 O (by have := hO.len; omega) ps hl
  have u1 := p_supply L (by have := hL.len; omega) hL.gd _ hc.asc
  have u2 := p_demand O (by have := hO.len; omega) hO.gd _ hc.asc
  have u3 := p_surplus L O (by have := hL.len; omega) (by have := hO.len; omega) hL.gd hO.gd _ hc.asc
  simp only [any_corn] at u1 u2 u3
  have bd1 := sum_bd L hL.gd fun v => ps.any (inP v)
  have bd2 := sum_bd O hO.gd fun v => ps.any (inP v)
  have hL1 := hL.len
  have hO1 := hO.len
  have rd := p_read (corn ps) ⟨hc.asc, by have := hc.len; omega, hc.pr⟩
  have tx := p_text (corn ps) (by have := hc.len; omega) (OkC.sm (hc.c (by omega)))
  have lc := law_corners ps (by omega)
  have pc := p_corners (corn ps) (by have := hc.len; omega)
  have gn := nePairs (corn ps) (corn ps)
  rw [decide_eq_true rfl] at gn
  generalize (sumIn L fun v => ps.any (inP v)) = A at w1 u1 u3 bd1
  generalize (sumIn O fun v => ps.any (inP v)) = B at w2 u2 u3 bd2
  have hA : A.natAbs < 10 ^ 60 := smI (by omega) (by omega)
  have hB : B.natAbs < 10 ^ 60 := smI (by omega) (by omega)
  have hAB : (A - B).natAbs < 10 ^ 60 := smI (by omega) (by omega)
  have rp : gRepr (.lst [.int A, .int B]) = some (.str (shT (.lst [.int A, .int B]))) := rp_ok ⟨⟨hA, hB, trivial⟩, by simp [bkD, bkDs], by simp [dpD, dpDs]⟩
  have rs := rI (A - B) hAB
  have e1 : i1 (E0' ns st d m L O K x6 x7 x8 x9) = some (.nx (E0' ns st d1 m1 L O K x6 (.sh (.lst (ps.map tupP))) x8 x9)) := by
    unfold E0'
    generalize L.map tupG = GL
    generalize O.map tupG = GO
    generalize ps.map tupP = P at q1 ⊢
    simp [i1, q1, h7, mC, mVar, mHs, mV, FL.m2, m2H, FL.m1, m1H, mNil, mCons, mMk, mTb, mTNot, mTAnd, mTOr, mTru, mAnd, mOr, mIf, mChain, sSeq, sNil, sIf, sRet, sDrop, sAsg, gSet, gSets, gUn, lentS_un, lentS_sh, lentS_owt, deref, gI, gB, gNeg, gNot, gTupD, gLstD, szOk, truD, cMod, cDiv, mkFn, mkFnO, endF, FL.cut, FL.cutS, mCall, mCallO, mCallK, sOwn, sRetO, sRetV, gIx, gDGet, keyD, getK, putKD, sDPutD, mDispN, mDicN, gAdd, gMul, gSl, mPn, mPs, mSl, cutA, HT.sIx, gMin2, gMax2, gList, gTuple, gLen, gIsi, isObjD, kindN, isiB, sForL, sForT, sForR, itemsD, rgOk, sPar, cond_true, cond_false, sizeLine_eq, sAppend, mPop]
  have e2 : i2 (E0' ns st d1 m1 L O K x6 (.sh (.lst (ps.map tupP))) x8 x9) = some (.nx (E0' ns st d1 m1 L O K x6 (.sh (.lst (ps.map tupP))) (.sh (So (corn ps))) x9)) := by
    unfold E0'
    generalize L.map tupG = GL
    generalize O.map tupG = GO
    generalize ps.map tupP = P at q2 ⊢
    generalize So (corn ps) = C at q2 ⊢
    simp [i2, q2, h8, mC, mVar, mHs, mV, FL.m2, m2H, FL.m1, m1H, mNil, mCons, mMk, mTb, mTNot, mTAnd, mTOr, mTru, mAnd, mOr, mIf, mChain, sSeq, sNil, sIf, sRet, sDrop, sAsg, gSet, gSets, gUn, lentS_un, lentS_sh, lentS_owt, deref, gI, gB, gNeg, gNot, gTupD, gLstD, szOk, truD, cMod, cDiv, mkFn, mkFnO, endF, FL.cut, FL.cutS, mCall, mCallO, mCallK, sOwn, sRetO, sRetV, gIx, gDGet, keyD, getK, putKD, sDPutD, mDispN, mDicN, gAdd, gMul, gSl, mPn, mPs, mSl, cutA, HT.sIx, gMin2, gMax2, gList, gTuple, gLen, gIsi, isObjD, kindN, isiB, sForL, sForT, sForR, itemsD, rgOk, sPar, cond_true, cond_false, sizeLine_eq, sAppend, mPop]
  have e3 : i3 (E0' ns st d1 m1 L O K x6 (.sh (.lst (ps.map tupP))) (.sh (So (corn ps))) x9) = some (.nx (E0' ns st d2 m2 L O K x6 (.sh (.lst (ps.map tupP))) (.sh (So (corn ps))) x9)) := by
    unfold E0'
    have pr := prop_so F_Stairs__text (corn ps) _ _ (mVar 8) [.sh (.scr ns), .sh (.int st), .ow true (Sack d2 m2), .sh (.lst (L.map tupG)), .sh (.lst (O.map tupG)), .sh (.str K), x6, .sh (.lst (ps.map tupP)), .sh (So (corn ps)), x9] [.sh (.scr ns), .sh (.int st), .ow true (Sack d2 m2), .sh (.lst (L.map tupG)), .sh (.lst (O.map tupG)), .sh (.str K), x6, .sh (.lst (ps.map tupP)), .sh (So (corn ps)), x9] rfl tx
    generalize L.map tupG = GL at pr ⊢
    generalize O.map tupG = GO at pr ⊢
    generalize ps.map tupP = P at pr ⊢
    generalize txt (corn ps) = T at pr rd
    generalize So (corn ps) = C at rd pr ⊢
    have e := eqI r 0
    unfold i3
    generalize mProp "Stairs" F_Stairs__text (mVar 8) = M1 at pr ⊢
    by_cases c : r = 0
    · rw [decide_eq_true c] at e
      simp [q3, e, pr, rd, mCMeth, mC, mVar, mHs, mV, FL.m2, m2H, FL.m1, m1H, mNil, mCons, mMk, mTb, mTNot, mTAnd, mTOr, mTru, mAnd, mOr, mIf, mChain, sSeq, sNil, sIf, sRet, sDrop, sAsg, gSet, gSets, gUn, lentS_un, lentS_sh, lentS_owt, deref, gI, gB, gNeg, gNot, gTupD, gLstD, szOk, truD, cMod, cDiv, mkFn, mkFnO, endF, FL.cut, FL.cutS, mCall, mCallO, mCallK, sOwn, sRetO, sRetV, gIx, gDGet, keyD, getK, putKD, sDPutD, mDispN, mDicN, gAdd, gMul, gSl, mPn, mPs, mSl, cutA, HT.sIx, gMin2, gMax2, gList, gTuple, gLen, gIsi, isObjD, kindN, isiB, sForL, sForT, sForR, itemsD, rgOk, sPar, cond_true, cond_false, sizeLine_eq, sAppend, mPop]
    · rw [decide_eq_false c] at e
      simp [q3, e, mC, mVar, mHs, mV, FL.m2, m2H, FL.m1, m1H, mNil, mCons, mMk, mTb, mTNot, mTAnd, mTOr, mTru, mAnd, mOr, mIf, mChain, sSeq, sNil, sIf, sRet, sDrop, sAsg, gSet, gSets, gUn, lentS_un, lentS_sh, lentS_owt, deref, gI, gB, gNeg, gNot, gTupD, gLstD, szOk, truD, cMod, cDiv, mkFn, mkFnO, endF, FL.cut, FL.cutS, mCall, mCallO, mCallK, sOwn, sRetO, sRetV, gIx, gDGet, keyD, getK, putKD, sDPutD, mDispN, mDicN, gAdd, gMul, gSl, mPn, mPs, mSl, cutA, HT.sIx, gMin2, gMax2, gList, gTuple, gLen, gIsi, isObjD, kindN, isiB, sForL, sForT, sForR, itemsD, rgOk, sPar, cond_true, cond_false, sizeLine_eq, sAppend, mPop]
  have e4 : i4 (E0' ns st d2 m2 L O K x6 (.sh (.lst (ps.map tupP))) (.sh (So (corn ps))) x9) = some (.nx (E0' ns st d2 m2 L O K x6 (.sh (.lst (ps.map tupP))) (.sh (So (corn ps))) (.sh (.lst [.int A, .int B])))) := by
    unfold E0'
    generalize L.map tupG = GL at w1 ⊢
    generalize O.map tupG = GO at w2 ⊢
    generalize ps.map tupP = P at w1 w2 ⊢
    generalize So (corn ps) = C
    simp [i4, w1, w2, h9, mC, mVar, mHs, mV, FL.m2, m2H, FL.m1, m1H, mNil, mCons, mMk, mTb, mTNot, mTAnd, mTOr, mTru, mAnd, mOr, mIf, mChain, sSeq, sNil, sIf, sRet, sDrop, sAsg, gSet, gSets, gUn, lentS_un, lentS_sh, lentS_owt, deref, gI, gB, gNeg, gNot, gTupD, gLstD, szOk, truD, cMod, cDiv, mkFn, mkFnO, endF, FL.cut, FL.cutS, mCall, mCallO, mCallK, sOwn, sRetO, sRetV, gIx, gDGet, keyD, getK, putKD, sDPutD, mDispN, mDicN, gAdd, gMul, gSl, mPn, mPs, mSl, cutA, HT.sIx, gMin2, gMax2, gList, gTuple, gLen, gIsi, isObjD, kindN, isiB, sForL, sForT, sForR, itemsD, rgOk, sPar, cond_true, cond_false, sizeLine_eq, sAppend, mPop]
  have e5 : t5 (E0' ns st d2 m2 L O K x6 (.sh (.lst (ps.map tupP))) (.sh (So (corn ps))) (.sh (.lst [.int A, .int B]))) = some (false, E0' ns st d2 m2 L O K x6 (.sh (.lst (ps.map tupP))) (.sh (So (corn ps))) (.sh (.lst [.int A, .int B]))) := by
    unfold E0'
    generalize L.map tupG = GL at u1 ⊢
    generalize O.map tupG = GO at u2 ⊢
    generalize ps.map tupP = P
    generalize So (corn ps) = C at u1 u2 ⊢
    simp [t5, u1, u2, rp, ne_same, mC, mVar, mHs, mV, FL.m2, m2H, FL.m1, m1H, mNil, mCons, mMk, mTb, mTNot, mTAnd, mTOr, mTru, mAnd, mOr, mIf, mChain, sSeq, sNil, sIf, sRet, sDrop, sAsg, gSet, gSets, gUn, lentS_un, lentS_sh, lentS_owt, deref, gI, gB, gNeg, gNot, gTupD, gLstD, szOk, truD, cMod, cDiv, mkFn, mkFnO, endF, FL.cut, FL.cutS, mCall, mCallO, mCallK, sOwn, sRetO, sRetV, gIx, gDGet, keyD, getK, putKD, sDPutD, mDispN, mDicN, gAdd, gMul, gSl, mPn, mPs, mSl, cutA, HT.sIx, gMin2, gMax2, gList, gTuple, gLen, gIsi, isObjD, kindN, isiB, sForL, sForT, sForR, itemsD, rgOk, sPar, cond_true, cond_false, sizeLine_eq, sAppend, mPop]
  have e6 : t6a (E0' ns st d2 m2 L O K x6 (.sh (.lst (ps.map tupP))) (.sh (So (corn ps))) (.sh (.lst [.int A, .int B]))) = some (false, E0' ns st d2 m2 L O K x6 (.sh (.lst (ps.map tupP))) (.sh (So (corn ps))) (.sh (.lst [.int A, .int B]))) := by
    unfold E0'
    have j0 : atI [D.int A, D.int B] 0 = some (D.int A) := rfl
    have j1 : atI [D.int A, D.int B] 1 = some (D.int B) := rfl
    generalize L.map tupG = GL at u3 ⊢
    generalize O.map tupG = GO at u3 ⊢
    generalize ps.map tupP = P
    generalize So (corn ps) = C at u3 ⊢
    simp [t6a, u3, j0, j1, rs, ne_same, mC, mVar, mHs, mV, FL.m2, m2H, FL.m1, m1H, mNil, mCons, mMk, mTb, mTNot, mTAnd, mTOr, mTru, mAnd, mOr, mIf, mChain, sSeq, sNil, sIf, sRet, sDrop, sAsg, gSet, gSets, gUn, lentS_un, lentS_sh, lentS_owt, deref, gI, gB, gNeg, gNot, gTupD, gLstD, szOk, truD, cMod, cDiv, mkFn, mkFnO, endF, FL.cut, FL.cutS, mCall, mCallO, mCallK, sOwn, sRetO, sRetV, gIx, gDGet, keyD, getK, putKD, sDPutD, mDispN, mDicN, gAdd, gMul, gSl, mPn, mPs, mSl, cutA, HT.sIx, gMin2, gMax2, gList, gTuple, gLen, gIsi, isObjD, kindN, isiB, sForL, sForT, sForR, itemsD, rgOk, sPar, cond_true, cond_false, sizeLine_eq, sAppend, mPop]
  have e7 : t6b (E0' ns st d2 m2 L O K x6 (.sh (.lst (ps.map tupP))) (.sh (So (corn ps))) (.sh (.lst [.int A, .int B]))) = some (false, E0' ns st d2 m2 L O K x6 (.sh (.lst (ps.map tupP))) (.sh (So (corn ps))) (.sh (.lst [.int A, .int B]))) := by
    unfold E0'
    have pr := prop_so F_Stairs__corners (corn ps) _ _ (mVar 8) [.sh (.scr ns), .sh (.int st), .ow true (Sack d2 m2), .sh (.lst (L.map tupG)), .sh (.lst (O.map tupG)), .sh (.str K), x6, .sh (.lst (ps.map tupP)), .sh (So (corn ps)), .sh (.lst [.int A, .int B])] [.sh (.scr ns), .sh (.int st), .ow true (Sack d2 m2), .sh (.lst (L.map tupG)), .sh (.lst (O.map tupG)), .sh (.str K), x6, .sh (.lst (ps.map tupP)), .sh (So (corn ps)), .sh (.lst [.int A, .int B])] rfl pc
    unfold t6b
    generalize mProp "Stairs" F_Stairs__corners (mVar 8) = M1 at pr ⊢
    generalize L.map tupG = GL at pr ⊢
    generalize O.map tupG = GO at pr ⊢
    generalize ps.map tupP = P at lc pr ⊢
    generalize (corn ps).map tupP = PC at lc pr gn
    generalize So (corn ps) = C at pr ⊢
    simp [lc, pr, gn, mC, mVar, mHs, mV, FL.m2, m2H, FL.m1, m1H, mNil, mCons, mMk, mTb, mTNot, mTAnd, mTOr, mTru, mAnd, mOr, mIf, mChain, sSeq, sNil, sIf, sRet, sDrop, sAsg, gSet, gSets, gUn, lentS_un, lentS_sh, lentS_owt, deref, gI, gB, gNeg, gNot, gTupD, gLstD, szOk, truD, cMod, cDiv, mkFn, mkFnO, endF, FL.cut, FL.cutS, mCall, mCallO, mCallK, sOwn, sRetO, sRetV, gIx, gDGet, keyD, getK, putKD, sDPutD, mDispN, mDicN, gAdd, gMul, gSl, mPn, mPs, mSl, cutA, HT.sIx, gMin2, gMax2, gList, gTuple, gLen, gIsi, isObjD, kindN, isiB, sForL, sForT, sForR, itemsD, rgOk, sPar, cond_true, cond_false, sizeLine_eq, sAppend, mPop]
  refine ⟨d2, m2, .sh (.lst (ps.map tupP)), .sh (So (corn ps)), .sh (.lst [.int A, .int B]), ?_, ok2, rfl, rfl, rfl⟩
  have n : ∀ {t : M Bool} {E : En}, t E = some (false, E) → sIf t no sNil E = some (.nx E) := fun h => (if_no h).trans rfl
  unfold bT
  rw [seq_nx e1, seq_nx e2, seq_nx e3, seq_nx e4, seq_nx (n e5)]
  exact n (or_ff e6 e7)
end K13

namespace K13
open PySem PySem.Spec PyProof.Rows L2 FL PL
set_option maxRecDepth 100000
set_option maxHeartbeats 8000000
set_option linter.all false
noncomputable def kT (L O : List GG) : Str := shT (.tup [.lst (L.map tupG), .lst (O.map tupG)])
theorem loopT (ns : List Int) (st d m : Int) (ok : SackOk d m) (L O : List GG) (hL : Ls L) (hO : Ls O) (K : Str) (x6 x7 x8 x9 : Sl) (h6 : lentS x6 = false) (h7 : lentS x7 = false) (h8 : lentS x8 = false) (h9 : lentS x9 = false) :
    ∃ d' m' y6 y7 y8 y9, o5 (E0' ns st d m L O K x6 x7 x8 x9) = some (.nx (E0' ns st d' m' L O K y6 y7 y8 y9)) ∧ SackOk d' m' ∧ lentS y6 = false ∧ lentS y7 = false ∧ lentS y8 = false ∧ lentS y9 = false := by
  obtain ⟨e2, q2, d', m', y6, y7, y8, y9, rfl, ok', k6, k7, k8, k9⟩ := loop_nx (set := gSet 6) (body := bT) (fun e => ∃ d m x6 x7 x8 x9, e = E0' ns st d m L O K x6 x7 x8 x9 ∧ SackOk d m ∧ lentS x6 = false ∧ lentS x7 = false ∧ lentS x8 = false ∧ lentS x9 = false) (FL.upTo 4) (fun dd hd e h => by
    obtain ⟨d, m, x6, x7, x8, x9, rfl, ok, h6, h7, h8, h9⟩ := h
    obtain ⟨j, hj, rfl⟩ := mem_upTo hd
    obtain ⟨d', m', y7, y8, y9, q, ok', k7, k8, k9⟩ := turnT ns st d m ok L O hL hO K (.sh (.int j)) x7 x8 x9 h7 h8 h9
    exact ⟨E0' ns st d m L O K (.sh (.int j)) x7 x8 x9, _, by unfold E0'; simp [gSet, h6], q, d', m', _, y7, y8, y9, rfl, ok', rfl, k7, k8, k9⟩) (E0' ns st d m L O K x6 x7 x8 x9) ⟨d, m, x6, x7, x8, x9, rfl, ok, h6, h7, h8, h9⟩
  exact ⟨d', m', y6, y7, y8, y9, forR_c (i := 4) rfl (by decide) q2, ok', k6, k7, k8, k9⟩
theorem q_o2 (ns : List Int) (st d m : Int) (ok : SackOk d m) (x3 x4 x5 x6 x7 x8 x9 : Sl) (h3 : lentS x3 = false) (h4 : lentS x4 = false) : ∃ (L O : List GG) (d' m' : Int), o2 [.sh (.scr ns), .sh (.int st), .ow true (Sack d m), x3, x4, x5, x6, x7, x8, x9] =
    some (.nx [.sh (.scr ns), .sh (.int st), .ow true (Sack d' m'), .sh (.lst (L.map tupG)), .sh (.lst (O.map tupG)), x5, x6, x7, x8, x9]) ∧ L.length ≤ 9 ∧ O.length ≤ 9 ∧ (∀ g ∈ L, Gd g) ∧ (∀ g ∈ O, Gd g) ∧ SackOk d' m' := by
  obtain ⟨r, d1, m1, q1, a1, b1, ok1⟩ := draws d m 9 ok (by decide) (by decide)
  obtain ⟨L, d2, m2, q2, hL, gL, ok2⟩ := goods d1 m1 ok1 r.toNat (by omega)
  obtain ⟨r2, d3, m3, q3, a3, b3, ok3⟩ := draws d2 m2 9 ok2 (by decide) (by decide)
  obtain ⟨O, d4, m4, q4, hO, gO, ok4⟩ := goods d3 m3 ok3 r2.toNat (by omega)
  have e1 : ((r.toNat : Nat) : Int) = r := by omega
  have e2 : ((r2.toNat : Nat) : Int) = r2 := by omega
  rw [e1] at q2
  rw [e2] at q4
  refine ⟨L, O, d4, m4, ?_, by omega, by omega, gL, gO, ok4⟩
  generalize L.map tupG = GL at q2 ⊢
  generalize O.map tupG = GO at q4 ⊢
  simp [o2, q1, q2, q3, q4, h3, h4, sPar, mC, mVar, mHs, mV, FL.m2, m2H, FL.m1, m1H, mNil, mCons, mMk, mTb, mTNot, mTAnd, mTOr, mTru, mAnd, mOr, mIf, mChain, sSeq, sNil, sIf, sRet, sDrop, sAsg, gSet, gSets, gUn, lentS_un, lentS_sh, lentS_owt, deref, gI, gB, gNeg, gNot, gTupD, gLstD, szOk, truD, cMod, cDiv, mkFn, mkFnO, endF, FL.cut, FL.cutS, mCall, mCallO, mCallK, sOwn, sRetO, sRetV, gIx, gDGet, keyD, getK, putKD, sDPutD, mDispN, mDicN, gAdd, gMul, gSl, mPn, mPs, mSl, cutA, HT.sIx, gMin2, gMax2, gList, gTuple, gLen, gIsi, isObjD, kindN, isiB, sForL, sForT, sForR, itemsD, rgOk, sPar, cond_true, cond_false, sizeLine_eq, sAppend, mPop]
theorem q_o3 (ns : List Int) (st d m : Int) (ok : SackOk d m) (L O : List GG) (hL : L.length ≤ 9) (hO : O.length ≤ 9) (gL : ∀ g ∈ L, Gd g) (gO : ∀ g ∈ O, Gd g) (x5 x6 x7 x8 x9 : Sl) : ∃ (L' O' : List GG) (d' m' : Int), o3 [.sh (.scr ns), .sh (.int st), .ow true (Sack d m), .sh (.lst (L.map tupG)), .sh (.lst (O.map tupG)), x5, x6, x7, x8, x9] =
    some (.nx [.sh (.scr ns), .sh (.int st), .ow true (Sack d' m'), .sh (.lst (L'.map tupG)), .sh (.lst (O'.map tupG)), x5, x6, x7, x8, x9]) ∧ Ls L' ∧ Ls O' ∧ SackOk d' m' := by
  obtain ⟨r, dd1, mm1, q1, a1, b1, ok1⟩ := draws d m 3 ok (by decide) (by decide)
  have e := eqI r 0
  by_cases c : r = 0
  · rw [decide_eq_true c] at e
    have l1 := len_cutA L none (some 1)
    have l2 := len_cutA O (some (-1)) none
    refine ⟨L ++ cutA L none (some 1), cutA O (some (-1)) none ++ O, dd1, mm1, ?_, ⟨by simp; omega, fun g hg => (List.mem_append.mp hg).elim (gL g) fun h => gL g (mem_cutA h)⟩, ⟨by simp; omega, fun g hg => (List.mem_append.mp hg).elim (fun h => gO g (mem_cutA h)) (gO g)⟩, ok1⟩
    rw [List.map_append, List.map_append, ← cutA_map, ← cutA_map]
    have z1 : (L.map tupG).length + (cutA (L.map tupG) none (some 1)).length ≤ 16777216 := by
      have := len_cutA (L.map tupG) none (some 1); rw [List.length_map] at this; rw [List.length_map]; omega
    have z2 : (cutA (O.map tupG) (some (-1)) none).length + (O.map tupG).length ≤ 16777216 := by
      have := len_cutA (O.map tupG) (some (-1)) none; rw [List.length_map] at this; rw [List.length_map]; omega
    have s1 : gSl (.lst (L.map tupG)) none (some 1) = some (.lst (cutA (L.map tupG) none (some 1))) := rfl
    have s2 : gSl (.lst (O.map tupG)) (some (-1)) none = some (.lst (cutA (O.map tupG) (some (-1)) none)) := rfl
    have c1 : gAdd (.lst (L.map tupG)) (.lst (cutA (L.map tupG) none (some 1))) = some (.lst (L.map tupG ++ cutA (L.map tupG) none (some 1))) := by
      show (if (L.map tupG).length + (cutA (L.map tupG) none (some 1)).length ≤ sizeLine then some _ else none) = _
      rw [sizeLine_eq, if_pos z1]
    have c2 : gAdd (.lst (cutA (O.map tupG) (some (-1)) none)) (.lst (O.map tupG)) = some (.lst (cutA (O.map tupG) (some (-1)) none ++ O.map tupG)) := by
      show (if (cutA (O.map tupG) (some (-1)) none).length + (O.map tupG).length ≤ sizeLine then some _ else none) = _
      rw [sizeLine_eq, if_pos z2]
    generalize cutA (L.map tupG) none (some 1) = CL at s1 c1 ⊢
    generalize cutA (O.map tupG) (some (-1)) none = CO at s2 c2 ⊢
    generalize L.map tupG ++ CL = GL' at c1 ⊢
    generalize CO ++ O.map tupG = GO' at c2 ⊢
    generalize L.map tupG = GL at s1 c1 ⊢
    generalize O.map tupG = GO at s2 c2 ⊢
    have tt : mTb (m2H gEq (mV (mCallO F__law_pick 2 (mCons (mC (.int 3)) mNil))) (mV (mC (.int 0)))) [.sh (.scr ns), .sh (.int st), .ow true (Sack d m), .sh (.lst GL), .sh (.lst GO), x5, x6, x7, x8, x9] = some (true, [.sh (.scr ns), .sh (.int st), .ow true (Sack dd1 mm1), .sh (.lst GL), .sh (.lst GO), x5, x6, x7, x8, x9]) := by
      simp [q1, e, mC, mVar, mHs, mV, FL.m2, m2H, FL.m1, m1H, mNil, mCons, mMk, mTb, mTNot, mTAnd, mTOr, mTru, mAnd, mOr, mIf, mChain, sSeq, sNil, sIf, sRet, sDrop, sAsg, gSet, gSets, gUn, lentS_un, lentS_sh, lentS_owt, deref, gI, gB, gNeg, gNot, gTupD, gLstD, szOk, truD, cMod, cDiv, mkFn, mkFnO, endF, FL.cut, FL.cutS, mCall, mCallO, mCallK, sOwn, sRetO, sRetV, gIx, gDGet, keyD, getK, putKD, sDPutD, mDispN, mDicN, gAdd, gMul, gSl, mPn, mPs, mSl, cutA, HT.sIx, gMin2, gMax2, gList, gTuple, gLen, gIsi, isObjD, kindN, isiB, sForL, sForT, sForR, itemsD, rgOk, sPar, cond_true, cond_false, sizeLine_eq, sAppend, mPop]
    unfold o3
    rw [if_yes tt]
    have a1 : mAddA (mHs 3) (mV (mSl (mHs 3) mPn (mPs (mC (.int 1))))) [.sh (.scr ns), .sh (.int st), .ow true (Sack dd1 mm1), .sh (.lst GL), .sh (.lst GO), x5, x6, x7, x8, x9] = some (.lst GL', [.sh (.scr ns), .sh (.int st), .ow true (Sack dd1 mm1), .sh (.lst GL), .sh (.lst GO), x5, x6, x7, x8, x9]) := by
      simp [mAddA, m2H, mHs, mV, mSl, mPn, mPs, mC, deref, s1, c1]
    have a2 : mAddA (mV (mSl (mHs 4) (mPs (FL.m1 gNeg (mC (.int 1)))) mPn)) (mHs 4) [.sh (.scr ns), .sh (.int st), .ow true (Sack dd1 mm1), .sh (.lst GL), .sh (.lst GO), x5, x6, x7, x8, x9] = some (.lst GO', [.sh (.scr ns), .sh (.int st), .ow true (Sack dd1 mm1), .sh (.lst GL), .sh (.lst GO), x5, x6, x7, x8, x9]) := by
      simp [mAddA, m2H, mHs, mV, mSl, mPn, mPs, mC, FL.m1, gNeg, deref, s2, c2]
    generalize mAddA (mHs 3) (mV (mSl (mHs 3) mPn (mPs (mC (.int 1))))) = M1 at a1 ⊢
    generalize mAddA (mV (mSl (mHs 4) (mPs (FL.m1 gNeg (mC (.int 1)))) mPn)) (mHs 4) = M2 at a2 ⊢
    simp [a1, a2, sPar, mCons, mNil, gSets, gSet, lentS_sh]
  · rw [decide_eq_false c] at e
    refine ⟨L, O, dd1, mm1, ?_, ⟨by omega, gL⟩, ⟨by omega, gO⟩, ok1⟩
    generalize L.map tupG = GL
    generalize O.map tupG = GO
    have tt : mTb (m2H gEq (mV (mCallO F__law_pick 2 (mCons (mC (.int 3)) mNil))) (mV (mC (.int 0)))) [.sh (.scr ns), .sh (.int st), .ow true (Sack d m), .sh (.lst GL), .sh (.lst GO), x5, x6, x7, x8, x9] = some (false, [.sh (.scr ns), .sh (.int st), .ow true (Sack dd1 mm1), .sh (.lst GL), .sh (.lst GO), x5, x6, x7, x8, x9]) := by
      simp [q1, e, mC, mVar, mHs, mV, FL.m2, m2H, FL.m1, m1H, mNil, mCons, mMk, mTb, mTNot, mTAnd, mTOr, mTru, mAnd, mOr, mIf, mChain, sSeq, sNil, sIf, sRet, sDrop, sAsg, gSet, gSets, gUn, lentS_un, lentS_sh, lentS_owt, deref, gI, gB, gNeg, gNot, gTupD, gLstD, szOk, truD, cMod, cDiv, mkFn, mkFnO, endF, FL.cut, FL.cutS, mCall, mCallO, mCallK, sOwn, sRetO, sRetV, gIx, gDGet, keyD, getK, putKD, sDPutD, mDispN, mDicN, gAdd, gMul, gSl, mPn, mPs, mSl, cutA, HT.sIx, gMin2, gMax2, gList, gTuple, gLen, gIsi, isObjD, kindN, isiB, sForL, sForT, sForR, itemsD, rgOk, sPar, cond_true, cond_false, sizeLine_eq, sAppend, mPop]
    unfold o3
    rw [if_no tt]
    rfl
theorem q_o4 (ns : List Int) (st d m : Int) (L O : List GG) (hL : Ls L) (hO : Ls O) (x5 x6 x7 x8 x9 : Sl) (h5 : lentS x5 = false) : o4 [.sh (.scr ns), .sh (.int st), .ow true (Sack d m), .sh (.lst (L.map tupG)), .sh (.lst (O.map tupG)), x5, x6, x7, x8, x9] = some (.nx (E0' ns st d m L O (kT L O) x6 x7 x8 x9)) := by
  have r := r_goods (by have := hL.len; omega) (by have := hO.len; omega) hL.gd hO.gd
  unfold E0' kT
  generalize L.map tupG = GL at r ⊢
  generalize O.map tupG = GO at r ⊢
  simp [o4, r, h5, mC, mVar, mHs, mV, FL.m2, m2H, FL.m1, m1H, mNil, mCons, mMk, mTb, mTNot, mTAnd, mTOr, mTru, mAnd, mOr, mIf, mChain, sSeq, sNil, sIf, sRet, sDrop, sAsg, gSet, gSets, gUn, lentS_un, lentS_sh, lentS_owt, deref, gI, gB, gNeg, gNot, gTupD, gLstD, szOk, truD, cMod, cDiv, mkFn, mkFnO, endF, FL.cut, FL.cutS, mCall, mCallO, mCallK, sOwn, sRetO, sRetV, gIx, gDGet, keyD, getK, putKD, sDPutD, mDispN, mDicN, gAdd, gMul, gSl, mPn, mPs, mSl, cutA, HT.sIx, gMin2, gMax2, gList, gTuple, gLen, gIsi, isObjD, kindN, isiB, sForL, sForT, sForR, itemsD, rgOk, sPar, cond_true, cond_false, sizeLine_eq, sAppend, mPop]
theorem ft7 (ns : List Int) (st d m : Int) (L O : List GG) (hL : Ls L) (hO : Ls O) (x6 x7 x8 x9 : Sl) : t7 (E0' ns st d m L O (kT L O) x6 x7 x8 x9) = some (false, E0' ns st d m L O (kT L O) x6 x7 x8 x9) := by
  have r := r_goods (by have := hL.len; omega) (by have := hO.len; omega) hL.gd hO.gd
  unfold E0' kT
  generalize L.map tupG = GL at r ⊢
  generalize O.map tupG = GO at r ⊢
  simp [t7, r, ne_same, mC, mVar, mHs, mV, FL.m2, m2H, FL.m1, m1H, mNil, mCons, mMk, mTb, mTNot, mTAnd, mTOr, mTru, mAnd, mOr, mIf, mChain, sSeq, sNil, sIf, sRet, sDrop, sAsg, gSet, gSets, gUn, lentS_un, lentS_sh, lentS_owt, deref, gI, gB, gNeg, gNot, gTupD, gLstD, szOk, truD, cMod, cDiv, mkFn, mkFnO, endF, FL.cut, FL.cutS, mCall, mCallO, mCallK, sOwn, sRetO, sRetV, gIx, gDGet, keyD, getK, putKD, sDPutD, mDispN, mDicN, gAdd, gMul, gSl, mPn, mPs, mSl, cutA, HT.sIx, gMin2, gMax2, gList, gTuple, gLen, gIsi, isObjD, kindN, isiB, sForL, sForT, sForR, itemsD, rgOk, sPar, cond_true, cond_false, sizeLine_eq, sAppend, mPop]
def J (ns : List Int) (e : En) : Prop := ∃ x1 x2 x3 x4 x5 x6 x7 x8 x9, e = [.sh (.scr ns), x1, x2, x3, x4, x5, x6, x7, x8, x9] ∧ lentS x1 = false ∧ lentS x2 = false ∧ lentS x3 = false ∧ lentS x4 = false ∧ lentS x5 = false ∧ lentS x6 = false ∧ lentS x7 = false ∧ lentS x8 = false ∧ lentS x9 = false
theorem turn1 (ns : List Int) (hb : ∀ z ∈ ns, Builtin.Int.intBits z ≤ 1048576) (i : Nat) (hi : i < 4) (e : En) (h : J ns e) : ∃ e1 e2, gSet 1 (.int i) e = some e1 ∧ b1 e1 = some (.nx e2) ∧ J ns e2 := by
  obtain ⟨x1, x2, x3, x4, x5, x6, x7, x8, x9, rfl, h1, h2, h3, h4, h5, h6, h7, h8, h9⟩ := h
  obtain ⟨d, m, e', q, ok⟩ := makes ns i hb (by omega) (by omega)
  obtain ⟨L, O, d1, m1, q2, l1, l2, g1, g2, ok1⟩ := q_o2 ns i d m ok x3 x4 x5 x6 x7 x8 x9 h3 h4
  obtain ⟨L', O', d2, m2, q3, hL, hO, ok2⟩ := q_o3 ns i d1 m1 ok1 L O l1 l2 g1 g2 x5 x6 x7 x8 x9
  have q4 := q_o4 ns i d2 m2 L' O' hL hO x5 x6 x7 x8 x9 h5
  obtain ⟨d3, m3, y6, y7, y8, y9, q5, _, k6, k7, k8, k9⟩ := loopT ns i d2 m2 ok2 L' O' hL hO (kT L' O') x6 x7 x8 x9 h6 h7 h8 h9
  have q6 := ft7 ns i d3 m3 L' O' hL hO y6 y7 y8 y9
  refine ⟨[.sh (.scr ns), .sh (.int i), x2, x3, x4, x5, x6, x7, x8, x9], E0' ns i d3 m3 L' O' (kT L' O') y6 y7 y8 y9, by simp [gSet, h1], ?_, ⟨_, _, _, _, _, _, _, _, _, rfl, rfl, rfl, rfl, rfl, rfl, k6, k7, k8, k9⟩⟩
  have t1 : sOwn 2 (mCall F__law_tape (mCons (mVar 0) (mCons (mVar 1) mNil))) [.sh (.scr ns), .sh (.int i), x2, x3, x4, x5, x6, x7, x8, x9] = some (.nx [.sh (.scr ns), .sh (.int i), .ow true (Sack d m), x3, x4, x5, x6, x7, x8, x9]) := by
    simp [q, h2, mC, mVar, mHs, mV, FL.m2, m2H, FL.m1, m1H, mNil, mCons, mMk, mTb, mTNot, mTAnd, mTOr, mTru, mAnd, mOr, mIf, mChain, sSeq, sNil, sIf, sRet, sDrop, sAsg, gSet, gSets, gUn, lentS_un, lentS_sh, lentS_owt, deref, gI, gB, gNeg, gNot, gTupD, gLstD, szOk, truD, cMod, cDiv, mkFn, mkFnO, endF, FL.cut, FL.cutS, mCall, mCallO, mCallK, sOwn, sRetO, sRetV, gIx, gDGet, keyD, getK, putKD, sDPutD, mDispN, mDicN, gAdd, gMul, gSl, mPn, mPs, mSl, cutA, HT.sIx, gMin2, gMax2, gList, gTuple, gLen, gIsi, isObjD, kindN, isiB, sForL, sForT, sForR, itemsD, rgOk, sPar, cond_true, cond_false, sizeLine_eq, sAppend, mPop]
  unfold b1
  rw [seq_nx t1, seq_nx q2, seq_nx q3, seq_nx q4, seq_nx q5]
  exact (if_no q6).trans rfl
theorem fin_ok (e : En) : fin e = some (.bl true, e) := by
  have hn : Asc [] := List.Pairwise.nil
  have u1 := p_supply [] (by simp) (by simp) [] hn
  have hp : ∀ p ∈ [((0 : Int), (5 : Int))], Pr p := fun p hp => by rw [List.mem_singleton] at hp; subst hp; exact ⟨by decide, by decide, by decide⟩
  have u2 := p_surplus [] [] (by simp) (by simp) (by simp) (by simp) (corn [(0, 5)]) (corn_asc _)
  have c0 : corn [] = [] := List.eq_nil_of_length_eq_zero (Nat.le_zero.mp (corn_len []))
  have m1 := p_make [] (by simp) (by simp) (fa := mNil) (e := e) (e1 := e) rfl
  rw [c0] at m1
  have m2 := p_make [((0 : Int), (5 : Int))] (by simp) hp (fa := mCons (mTup (mCons (mC (.int 0)) (mCons (mC (.int 5)) mNil))) mNil) (e := e) (e1 := e) (by simp [tupP, mC, mVar, mHs, mV, FL.m2, m2H, FL.m1, m1H, mNil, mCons, mMk, mTb, mTNot, mTAnd, mTOr, mTru, mAnd, mOr, mIf, mChain, sSeq, sNil, sIf, sRet, sDrop, sAsg, gSet, gSets, gUn, lentS_un, lentS_sh, lentS_owt, deref, gI, gB, gNeg, gNot, gTupD, gLstD, szOk, truD, cMod, cDiv, mkFn, mkFnO, endF, FL.cut, FL.cutS, mCall, mCallO, mCallK, sOwn, sRetO, sRetV, gIx, gDGet, keyD, getK, putKD, sDPutD, mDispN, mDicN, gAdd, gMul, gSl, mPn, mPs, mSl, cutA, HT.sIx, gMin2, gMax2, gList, gTuple, gLen, gIsi, isObjD, kindN, isiB, sForL, sForT, sForR, itemsD, rgOk, sPar, cond_true, cond_false, sizeLine_eq, sAppend, mPop])
  have z1 : ∀ f, sumIn [] f = 0 := fun f => rfl
  rw [z1] at u1
  rw [z1] at u2
  have e0 : ([] : List GG).map tupG = [] := rfl
  rw [e0] at u1 u2
  have eq := eqI 0 0
  rw [decide_eq_true rfl] at eq
  have i0 : (0 : Int) - 0 = 0 := rfl
  rw [i0] at u2
  unfold fin
  generalize mMakeS "Stairs" F_Stairs____init__ mNil = M1 at m1 ⊢
  generalize mMakeS "Stairs" F_Stairs____init__ (mCons (mTup (mCons (mC (.int 0)) (mCons (mC (.int 5)) mNil))) mNil) = M2 at m2 ⊢
  generalize So [] = C1 at u1 m1
  generalize So (corn [(0, 5)]) = C2 at u2 m2
  simp [m1, m2, u1, u2, eq, mC, mVar, mHs, mV, FL.m2, m2H, FL.m1, m1H, mNil, mCons, mMk, mTb, mTNot, mTAnd, mTOr, mTru, mAnd, mOr, mIf, mChain, sSeq, sNil, sIf, sRet, sDrop, sAsg, gSet, gSets, gUn, lentS_un, lentS_sh, lentS_owt, deref, gI, gB, gNeg, gNot, gTupD, gLstD, szOk, truD, cMod, cDiv, mkFn, mkFnO, endF, FL.cut, FL.cutS, mCall, mCallO, mCallK, sOwn, sRetO, sRetV, gIx, gDGet, keyD, getK, putKD, sDPutD, mDispN, mDicN, gAdd, gMul, gSl, mPn, mPs, mSl, cutA, HT.sIx, gMin2, gMax2, gList, gTuple, gLen, gIsi, isObjD, kindN, isiB, sForL, sForT, sForR, itemsD, rgOk, sPar, cond_true, cond_false, sizeLine_eq, sAppend, mPop]
theorem law_true (ns : List Int) (hb : ∀ z ∈ ns, Builtin.Int.intBits z ≤ 1048576) (hl : ns.length ≤ 63) : ∃ e', F_law [.sh (.scr ns)] = some (.bl true, e') := by
  have key : ∀ n : Nat, n ≤ 4 → ∃ e2, loopF (gSet 1) b1 (FL.upTo n) [.sh (.scr ns), .un, .un, .un, .un, .un, .un, .un, .un, .un] = some (.nx e2) ∧ J ns e2 := fun n hn =>
    loop_nx (J ns) (FL.upTo n) (fun dd hd e h => by
      obtain ⟨j, hj, rfl⟩ := mem_upTo hd
      exact turn1 ns hb j (by omega) e h) _ ⟨.un, .un, .un, .un, .un, .un, .un, .un, .un, rfl, rfl, rfl, rfl, rfl, rfl, rfl, rfl, rfl, rfl⟩
  obtain ⟨k, hk, hk5⟩ : ∃ k : Nat, (if (if (ns.length : Int) < 4 then (ns.length : Int) else 4) > 2 then (if (ns.length : Int) < 4 then (ns.length : Int) else 4) else 2) = (k : Int) ∧ k ≤ 4 := by
    refine ⟨(if (if (ns.length : Int) < 4 then (ns.length : Int) else 4) > 2 then (if (ns.length : Int) < 4 then (ns.length : Int) else 4) else 2).toNat, ?_, ?_⟩ <;> split <;> split <;> omega
  obtain ⟨e2, q, x1, x2, x3, x4, x5, x6, x7, x8, x9, rfl, _⟩ := key k hk5
  have rk : rgOk (k : Int) = true := by
    unfold rgOk
    simp only [Bool.and_eq_true, decide_eq_true_eq]
    omega
  have hx : sForR (mCons (mMk gMax2 (mCons (mC (.int 2)) (mCons (mMk gMin2 (mCons (mC (.int 4)) (mCons (m1H gLen (mHs 0)) mNil))) mNil))) mNil) (gSet 1) b1 [.sh (.scr ns), .un, .un, .un, .un, .un, .un, .un, .un, .un] = some (.nx [.sh (.scr ns), x1, x2, x3, x4, x5, x6, x7, x8, x9]) := by
    unfold sForR
    have hm : mCons (mMk gMax2 (mCons (mC (.int 2)) (mCons (mMk gMin2 (mCons (mC (.int 4)) (mCons (m1H gLen (mHs 0)) mNil))) mNil))) mNil [.sh (.scr ns), .un, .un, .un, .un, .un, .un, .un, .un, .un] = some ([.int k], [.sh (.scr ns), .un, .un, .un, .un, .un, .un, .un, .un, .un]) := by
      simp only [← hk]
      simp [mC, mVar, mHs, mV, FL.m2, m2H, FL.m1, m1H, mNil, mCons, mMk, mTb, mTNot, mTAnd, mTOr, mTru, mAnd, mOr, mIf, mChain, sSeq, sNil, sIf, sRet, sDrop, sAsg, gSet, gSets, gUn, lentS_un, lentS_sh, lentS_owt, deref, gI, gB, gNeg, gNot, gTupD, gLstD, szOk, truD, cMod, cDiv, mkFn, mkFnO, endF, FL.cut, FL.cutS, mCall, mCallO, mCallK, sOwn, sRetO, sRetV, gIx, gDGet, keyD, getK, putKD, sDPutD, mDispN, mDicN, gAdd, gMul, gSl, mPn, mPs, mSl, cutA, HT.sIx, gMin2, gMax2, gList, gTuple, gLen, gIsi, isObjD, kindN, isiB, sForL, sForT, sForR, itemsD, rgOk, sPar, cond_true, cond_false, sizeLine_eq, sAppend, mPop]
    rw [hm]
    show (if rgOk (k : Int) = true then loopF (gSet 1) b1 (FL.upTo (k : Int).toNat) _ else none) = _
    rw [if_pos rk, Int.toNat_natCast]
    exact q
  have hf := fin_ok [.sh (.scr ns), x1, x2, x3, x4, x5, x6, x7, x8, x9]
  refine ⟨[.un], fn_rt (e := [.sh (.scr ns), x1, x2, x3, x4, x5, x6, x7, x8, x9]) rfl ?_ rfl (by simp)⟩
  show B_law [.sh (.scr ns), .un, .un, .un, .un, .un, .un, .un, .un, .un] = _
  rw [eb, seq_nx hx]
  generalize fin = W at hf
  simp [sRet, hf]
end K13

set_option Elab.async false
set_option linter.all false
set_option maxRecDepth 100000
set_option maxHeartbeats 4000000
namespace K13
open PySem PySem.Spec PyProof.Rows L2 FL PL
def top (i : Nat) : Stmt := PySem.Challenge.pw_freshpromise_k13_supply_and_demand.main.body.getD i (.Pass ⟨0, 0, 0, 0⟩)
def sub (i j : Nat) : Stmt := match top i with
  | .ClassDef _ _ _ body _ _ _ _ _ _ _ => body.getD j (.Pass ⟨0, 0, 0, 0⟩)
  | _ => .Pass ⟨0, 0, 0, 0⟩
abbrev s__law_tape : Stmt := top 23
abbrev N__law_tape : List Str := ["script", "start", "mixed", "cell", "digits"]
abbrev s__law_pick : Stmt := top 24
abbrev N__law_pick : List Str := ["tape", "size", "found"]
abbrev s__law_one_of : Stmt := top 25
abbrev N__law_one_of : List Str := ["tape", "items"]
abbrev s__law_goods : Stmt := top 31
abbrev N__law_goods : List Str := ["tape", "size", "most", "found", "step", "turn", "day", "keeps"]
abbrev s__law_pair : Stmt := top 26
abbrev N__law_pair : List Str := ["tape", "day", "pair"]
abbrev s__law_pairs : Stmt := top 27
abbrev N__law_pairs : List Str := ["tape", "most", "turn"]
abbrev s_is_whole : Stmt := top 8
abbrev N_is_whole : List Str := ["value"]
abbrev s_is_day : Stmt := top 9
abbrev N_is_day : List Str := ["value"]
abbrev s_is_pair : Stmt := top 10
abbrev N_is_pair : List Str := ["value", "day", "keeps"]
abbrev s__corners_among : Stmt := top 15
abbrev N__corners_among : List Str := ["pairs", "found", "day", "keeps"]
abbrev s_Stairs____init__ : Stmt := sub 14 0
abbrev N_Stairs____init__ : List Str := ["self", "pairs", "pair"]
abbrev s__law_made : Stmt := top 28
abbrev N__law_made : List Str := ["pairs"]
abbrev s_read_number : Stmt := top 12
abbrev N_read_number : List Str := ["word"]
abbrev s__pairs_told : Stmt := top 17
abbrev N__pairs_told : List Str := ["text", "pairs", "part", "pair", "word"]
abbrev s_Stairs__text : Stmt := sub 14 2
abbrev N_Stairs__text : List Str := ["self", "day", "keeps"]
abbrev s_Stairs__read : Stmt := sub 14 1
abbrev N_Stairs__read : List Str := ["cls", "text", "pairs", "stairs"]
abbrev s__law_has : Stmt := top 29
abbrev N__law_has : List Str := ["pairs", "pair", "one"]
abbrev s__law_within : Stmt := top 32
abbrev N__law_within : List Str := ["goods", "pairs", "one"]
abbrev s_Stairs____contains__ : Stmt := sub 14 6
abbrev N_Stairs____contains__ : List Str := ["self", "value", "day", "keeps"]
abbrev s_pair_of : Stmt := top 11
abbrev N_pair_of : List Str := ["goods"]
abbrev s_supply : Stmt := top 19
abbrev N_supply : List Str := ["lots", "stairs", "lot"]
abbrev s_demand : Stmt := top 20
abbrev N_demand : List Str := ["orders", "stairs", "order"]
abbrev s_surplus : Stmt := top 21
abbrev N_surplus : List Str := ["lots", "orders", "stairs"]
abbrev s_Stairs__corners : Stmt := sub 14 3
abbrev N_Stairs__corners : List Str := ["self", "day", "keeps"]
abbrev s__law_corners : Stmt := top 30
abbrev N__law_corners : List Str := ["pairs", "found", "pair", "others", "at", "one"]
abbrev s_law : Stmt := top 34
abbrev N_law : List Str := ["script", "start", "tape", "lots", "orders", "kept", "turn", "pairs", "stairs", "sums"]
/-! ### what the top has left -/
structure Tx (K : PySem.W.Frag) (mg : Str → Option Value) : Prop where
  fn__law_tape : ∃ fd, FunD K "_law_tape" "_law_tape" (defArgs s__law_tape) (defBody s__law_tape) (defScope s__law_tape) [] [] (He.ga K "_law_tape") fd
  fn__law_pick : ∃ fd, FunD K "_law_pick" "_law_pick" (defArgs s__law_pick) (defBody s__law_pick) (defScope s__law_pick) [] [] (He.ga K "_law_pick") fd
  fn__law_one_of : ∃ fd, FunD K "_law_one_of" "_law_one_of" (defArgs s__law_one_of) (defBody s__law_one_of) (defScope s__law_one_of) [] [] (He.ga K "_law_one_of") fd
  fn__law_goods : ∃ fd, FunD K "_law_goods" "_law_goods" (defArgs s__law_goods) (defBody s__law_goods) (defScope s__law_goods) [] [] (He.ga K "_law_goods") fd
  fn__law_pair : ∃ fd, FunD K "_law_pair" "_law_pair" (defArgs s__law_pair) (defBody s__law_pair) (defScope s__law_pair) [] [] (He.ga K "_law_pair") fd
  fn__law_pairs : ∃ fd, FunD K "_law_pairs" "_law_pairs" (defArgs s__law_pairs) (defBody s__law_pairs) (defScope s__law_pairs) [] [] (He.ga K "_law_pairs") fd
  fn_is_whole : ∃ fd, FunD K "is_whole" "is_whole" (defArgs s_is_whole) (defBody s_is_whole) (defScope s_is_whole) [] [] (He.ga K "is_whole") fd
  fn_is_day : ∃ fd, FunD K "is_day" "is_day" (defArgs s_is_day) (defBody s_is_day) (defScope s_is_day) [] [] (He.ga K "is_day") fd
  fn_is_pair : ∃ fd, FunD K "is_pair" "is_pair" (defArgs s_is_pair) (defBody s_is_pair) (defScope s_is_pair) [] [] (He.ga K "is_pair") fd
  fn__corners_among : ∃ fd, FunD K "_corners_among" "_corners_among" (defArgs s__corners_among) (defBody s__corners_among) (defScope s__corners_among) [] [] (He.ga K "_corners_among") fd
  fn_Stairs____init__ : ∃ fd, FunD K "__init__" "Stairs.__init__" (defArgs s_Stairs____init__) (defBody s_Stairs____init__) (defScope s_Stairs____init__) [] [] (He.ma K (He.ga K "Stairs") "__init__") fd
  fn__law_made : ∃ fd, FunD K "_law_made" "_law_made" (defArgs s__law_made) (defBody s__law_made) (defScope s__law_made) [] [] (He.ga K "_law_made") fd
  fn_read_number : ∃ fd, FunD K "read_number" "read_number" (defArgs s_read_number) (defBody s_read_number) (defScope s_read_number) [] [] (He.ga K "read_number") fd
  fn__pairs_told : ∃ fd, FunD K "_pairs_told" "_pairs_told" (defArgs s__pairs_told) (defBody s__pairs_told) (defScope s__pairs_told) [] [] (He.ga K "_pairs_told") fd
  fn_Stairs__text : ∃ fd, FunD K "text" "Stairs.text" (defArgs s_Stairs__text) (defBody s_Stairs__text) (defScope s_Stairs__text) [] [] (pgA K "Stairs" "text") fd
  fn_Stairs__read : ∃ fd, FunD K "read" "Stairs.read" (defArgs s_Stairs__read) (defBody s_Stairs__read) (defScope s_Stairs__read) [] [] (cmA K "Stairs" "read") fd
  fn__law_has : ∃ fd, FunD K "_law_has" "_law_has" (defArgs s__law_has) (defBody s__law_has) (defScope s__law_has) [] [] (He.ga K "_law_has") fd
  fn__law_within : ∃ fd, FunD K "_law_within" "_law_within" (defArgs s__law_within) (defBody s__law_within) (defScope s__law_within) [] [] (He.ga K "_law_within") fd
  fn_Stairs____contains__ : ∃ fd, FunD K "__contains__" "Stairs.__contains__" (defArgs s_Stairs____contains__) (defBody s_Stairs____contains__) (defScope s_Stairs____contains__) [] [] (He.ma K (He.ga K "Stairs") "__contains__") fd
  fn_pair_of : ∃ fd, FunD K "pair_of" "pair_of" (defArgs s_pair_of) (defBody s_pair_of) (defScope s_pair_of) [] [] (He.ga K "pair_of") fd
  fn_supply : ∃ fd, FunD K "supply" "supply" (defArgs s_supply) (defBody s_supply) (defScope s_supply) [] [] (He.ga K "supply") fd
  fn_demand : ∃ fd, FunD K "demand" "demand" (defArgs s_demand) (defBody s_demand) (defScope s_demand) [] [] (He.ga K "demand") fd
  fn_surplus : ∃ fd, FunD K "surplus" "surplus" (defArgs s_surplus) (defBody s_surplus) (defScope s_surplus) [] [] (He.ga K "surplus") fd
  fn_Stairs__corners : ∃ fd, FunD K "corners" "Stairs.corners" (defArgs s_Stairs__corners) (defBody s_Stairs__corners) (defScope s_Stairs__corners) [] [] (pgA K "Stairs" "corners") fd
  fn__law_corners : ∃ fd, FunD K "_law_corners" "_law_corners" (defArgs s__law_corners) (defBody s__law_corners) (defScope s__law_corners) [] [] (He.ga K "_law_corners") fd
  fn_law : ∃ fd, FunD K "law" "law" (defArgs s_law) (defBody s_law) (defScope s_law) [] [] (He.ga K "law") fd
  pr_Stairs__text : PropOf K (He.ga K "Stairs") "text" (He.ma K (He.ga K "Stairs") "text") (pgA K "Stairs" "text")
  pr_Stairs__corners : PropOf K (He.ga K "Stairs") "corners" (He.ma K (He.ga K "Stairs") "corners") (pgA K "Stairs" "corners")
  cm_Stairs__read : CmF K "Stairs" "read"
  no_bool : mg "bool" = none
  no_int : mg "int" = none
  no_isinstance : mg "isinstance" = none
  no_len : mg "len" = none
  no_max : mg "max" = none
  no_min : mg "min" = none
  no_range : mg "range" = none
  no_repr : mg "repr" = none
  no_sorted : mg "sorted" = none
  no_str : mg "str" = none
  no_sum : mg "sum" = none
  no_tuple : mg "tuple" = none
  in_LAST_DAY : ∃ t, mg "LAST_DAY" = some (.int 1000000 t)
  in_MOST_DIGITS : ∃ t, mg "MOST_DIGITS" = some (.int 60 t)
  gl__law_tape : mg "_law_tape" = some (.ref (He.ga K "_law_tape"))
  gl__law_pick : mg "_law_pick" = some (.ref (He.ga K "_law_pick"))
  gl__law_one_of : mg "_law_one_of" = some (.ref (He.ga K "_law_one_of"))
  gl__law_goods : mg "_law_goods" = some (.ref (He.ga K "_law_goods"))
  gl__law_pair : mg "_law_pair" = some (.ref (He.ga K "_law_pair"))
  gl__law_pairs : mg "_law_pairs" = some (.ref (He.ga K "_law_pairs"))
  gl_is_whole : mg "is_whole" = some (.ref (He.ga K "is_whole"))
  gl_is_day : mg "is_day" = some (.ref (He.ga K "is_day"))
  gl_is_pair : mg "is_pair" = some (.ref (He.ga K "is_pair"))
  gl__corners_among : mg "_corners_among" = some (.ref (He.ga K "_corners_among"))
  gl__law_made : mg "_law_made" = some (.ref (He.ga K "_law_made"))
  gl_read_number : mg "read_number" = some (.ref (He.ga K "read_number"))
  gl__pairs_told : mg "_pairs_told" = some (.ref (He.ga K "_pairs_told"))
  gl__law_has : mg "_law_has" = some (.ref (He.ga K "_law_has"))
  gl__law_within : mg "_law_within" = some (.ref (He.ga K "_law_within"))
  gl_pair_of : mg "pair_of" = some (.ref (He.ga K "pair_of"))
  gl_supply : mg "supply" = some (.ref (He.ga K "supply"))
  gl_demand : mg "demand" = some (.ref (He.ga K "demand"))
  gl_surplus : mg "surplus" = some (.ref (He.ga K "surplus"))
  gl__law_corners : mg "_law_corners" = some (.ref (He.ga K "_law_corners"))
  gl_law : mg "law" = some (.ref (He.ga K "law"))
  gl_Stairs : mg "Stairs" = some (.ref (He.ga K "Stairs"))
  cl_Stairs : Cls K (He.ga K "Stairs")
  mk_Stairs : Mk K (He.ga K "Stairs") (He.ma K (He.ga K "Stairs") "__init__")
  na_Stairs__corners : NoAttr K (He.ga K "Stairs") "_corners"
  me_Stairs____contains__ : Meth K (He.ga K "Stairs") "__contains__" (He.ma K (He.ga K "Stairs") "__contains__")
section
variable {P : Program} {w : World} {K : PySem.W.Frag} {mg : Str → Option Value}
theorem sc__law_tape : FnScope N__law_tape ["script", "start"] (defScope s__law_tape) := ⟨rfl, rfl, rfl, by decide +kernel, rfl, by decide +kernel, by decide +kernel⟩
abbrev Fd__law_tape (K : PySem.W.Frag) (fd : FuncData) : Prop := FunD K "_law_tape" "_law_tape" (defArgs s__law_tape) (defBody s__law_tape) (defScope s__law_tape) [] [] (He.ga K "_law_tape") fd
theorem bn__law_tape {fd : FuncData} (F : Fd__law_tape K fd) : Binds K fd ["script", "start"] [] := F.bindsN fun _ _ _ _ _ _ us hl => match us, hl with | [_, _], _ => rfl
theorem ok__law_tape (T : Tx K mg) : ∃ fd, (∀ base : Heap, FnG P w K mg base CX0 1 (He.ga K "_law_tape") fd ["script", "start"] (spO K F__law_tape)) ∧ Fd__law_tape K fd := by
  obtain ⟨fd, F⟩ := T.fn__law_tape
  refine ⟨fd, fun base => def_okO F sc__law_tape fun cdv A outer s H E c gu room => ?_, F⟩
  have nd := (sc__law_tape).nd
  exact (fs_cons (fs_asg (f_addA (f_val f_int) (f_val (f_mulA (f_hvar 1 (pv 1)) (f_val f_int)))) (fg_name (pg_name nd rfl (Or.inl rfl))))
    (fs_cons (fs_forL PassesOwn.never rfl (f_var 0 (pv 0)) (fg_name (pg_name nd rfl (Or.inl rfl))) (fs_one (fs_asg (f_addA (f_val (f_mod (f_pow (f_addA (f_val (f_addA (f_val (f_mulA (f_hvar 2 (pv 2)) (f_val f_int))) (f_val (f_mulA (f_hvar 3 (pv 3)) (f_hvar 3 (pv 3)))))) (f_val f_int)) f_int) f_int)) (f_val f_int)) (fg_name (pg_name nd rfl (Or.inl rfl))))))
    (fs_cons (fs_asg (f_if (PW.pt (fw_and (ft_lt (f_hvar 1 (pv 1)) (f_val (f_len (f_hvar 0 (pv 0)) (by rfl) T.no_len))) (fw_and1 (ft_ge (f_val (f_item (f_hvar 0 (pv 0)) (f_hvar 1 (pv 1)) (fun _ _ => rfl))) (f_val (f_pow f_int f_int)))))) (f_sub (f_item (f_hvar 0 (pv 0)) (f_hvar 1 (pv 1)) (fun _ _ => rfl)) (f_pow f_int f_int)) f_int) (fg_name (pg_name nd rfl (Or.inl rfl))))
    (fs_one (fs_retO (fo_dicN [("digits", 4), ("mixed", 2)] (pps_cons pe_str (pv 4) (pps_cons pe_str (pv 2) pps_nil)) rfl rfl (by simp) (by decide) (by decide) (by decide +kernel)))))))
theorem sc__law_pick : FnScope N__law_pick ["tape", "size"] (defScope s__law_pick) := ⟨rfl, rfl, rfl, by decide +kernel, rfl, by decide +kernel, by decide +kernel⟩
abbrev Fd__law_pick (K : PySem.W.Frag) (fd : FuncData) : Prop := FunD K "_law_pick" "_law_pick" (defArgs s__law_pick) (defBody s__law_pick) (defScope s__law_pick) [] [] (He.ga K "_law_pick") fd
theorem bn__law_pick {fd : FuncData} (F : Fd__law_pick K fd) : Binds K fd ["tape", "size"] [] := F.bindsN fun _ _ _ _ _ _ us hl => match us, hl with | [_, _], _ => rfl
theorem ok__law_pick (T : Tx K mg) : ∃ fd, (∀ base : Heap, FnG P w K mg base CX0 1 (He.ga K "_law_pick") fd ["tape", "size"] (spF K F__law_pick)) ∧ Fd__law_pick K fd := by
  obtain ⟨fd, F⟩ := T.fn__law_pick
  refine ⟨fd, fun base => def_ok F sc__law_pick fun cdv A outer s H E c gu room => ?_, F⟩
  have nd := (sc__law_pick).nd
  exact (fs_cons (fs_if (ft_ge (f_val (f_dget room (f_hvar 0 (pv 0)) (f_val f_str) (fun _ _ => rfl))) (f_hvar 1 (pv 1))) (fs_cons (fs_asg (f_mod (f_dget room (f_hvar 0 (pv 0)) (f_val f_str) (fun _ _ => rfl)) (f_var 1 (pv 1))) (fg_name (pg_name nd rfl (Or.inl rfl))))
    (fs_cons (fs_dput room (pv 0) (f_div (f_dget room (f_hvar 0 (pv 0)) (f_val f_str) (fun _ _ => rfl)) (f_var 1 (pv 1))))
    (fs_one (fs_ret (f_var 2 (pv 2)))))) fs_nil)
    (fs_cons (fs_dput room (pv 0) (f_mod (f_addA (f_val (f_mulA (f_val (f_dget room (f_hvar 0 (pv 0)) (f_val f_str) (fun _ _ => rfl))) (f_val f_int))) (f_val f_int)) f_int))
    (fs_one (fs_ret (f_mod (f_div (f_mod (f_pow (f_mod (f_pow (f_dget room (f_hvar 0 (pv 0)) (f_val f_str) (fun _ _ => rfl)) f_int) f_int) f_int) f_int) f_int) (f_var 1 (pv 1)))))))
theorem sc__law_one_of : FnScope N__law_one_of ["tape", "items"] (defScope s__law_one_of) := ⟨rfl, rfl, rfl, by decide +kernel, rfl, by decide +kernel, by decide +kernel⟩
abbrev Fd__law_one_of (K : PySem.W.Frag) (fd : FuncData) : Prop := FunD K "_law_one_of" "_law_one_of" (defArgs s__law_one_of) (defBody s__law_one_of) (defScope s__law_one_of) [] [] (He.ga K "_law_one_of") fd
theorem bn__law_one_of {fd : FuncData} (F : Fd__law_one_of K fd) : Binds K fd ["tape", "items"] [] := F.bindsN fun _ _ _ _ _ _ us hl => match us, hl with | [_, _], _ => rfl
theorem ok__law_one_of (T : Tx K mg) : ∃ fd, (∀ base : Heap, FnG P w K mg base CX0 2 (He.ga K "_law_one_of") fd ["tape", "items"] (spF K F__law_one_of)) ∧ Fd__law_one_of K fd := by
  obtain ⟨fd__law_pick, G__law_pick, D__law_pick⟩ := ok__law_pick (P := P) (w := w) T
  have b__law_pick := bn__law_pick D__law_pick
  have k__law_pick := D__law_pick.kp
  obtain ⟨fd, F⟩ := T.fn__law_one_of
  refine ⟨fd, fun base => def_ok F sc__law_one_of fun cdv A outer s H E c gu room => ?_, F⟩
  have nd := (sc__law_one_of).nd
  exact (fs_one (fs_ret (f_item (f_hvar 1 (pv 1)) (f_val (f_callO ((G__law_pick base).mono (by decide)) gu room (by rfl) T.gl__law_pick k__law_pick b__law_pick (pv 0) (fa_cons (f_len (f_hvar 1 (pv 1)) (by rfl) T.no_len) fa_nil))) (fun _ _ => rfl))))
theorem sc__law_goods : FnScope N__law_goods ["tape", "size"] (defScope s__law_goods) := ⟨rfl, rfl, rfl, by decide +kernel, rfl, by decide +kernel, by decide +kernel⟩
abbrev Fd__law_goods (K : PySem.W.Frag) (fd : FuncData) : Prop := FunD K "_law_goods" "_law_goods" (defArgs s__law_goods) (defBody s__law_goods) (defScope s__law_goods) [] [] (He.ga K "_law_goods") fd
theorem bn__law_goods {fd : FuncData} (F : Fd__law_goods K fd) : Binds K fd ["tape", "size"] [] := F.bindsN fun _ _ _ _ _ _ us hl => match us, hl with | [_, _], _ => rfl
theorem ok__law_goods (T : Tx K mg) : ∃ fd, (∀ base : Heap, FnG P w K mg base CX0 3 (He.ga K "_law_goods") fd ["tape", "size"] (spF K F__law_goods)) ∧ Fd__law_goods K fd := by
  obtain ⟨fd__law_one_of, G__law_one_of, D__law_one_of⟩ := ok__law_one_of (P := P) (w := w) T
  have b__law_one_of := bn__law_one_of D__law_one_of
  have k__law_one_of := D__law_one_of.kp
  obtain ⟨fd__law_pick, G__law_pick, D__law_pick⟩ := ok__law_pick (P := P) (w := w) T
  have b__law_pick := bn__law_pick D__law_pick
  have k__law_pick := D__law_pick.kp
  obtain ⟨fd, F⟩ := T.fn__law_goods
  refine ⟨fd, fun base => def_ok F sc__law_goods fun cdv A outer s H E c gu room => ?_, F⟩
  have nd := (sc__law_goods).nd
  exact (fs_cons (fs_parO (i := 2) (j := 3) rfl nd rfl rfl (by decide) rfl rfl (f_callO ((G__law_one_of base).mono (by decide)) gu room (by rfl) T.gl__law_one_of k__law_one_of b__law_one_of (pv 0) (fa_cons (f_lst (fa_cons f_int (fa_cons f_int (fa_cons f_int (fa_cons f_int (fa_cons (f_pow f_int f_int) fa_nil)))))) fa_nil)) (fo_lst fa_nil) (by rfl))
    (fs_cons (fs_asg (f_callO ((G__law_one_of base).mono (by decide)) gu room (by rfl) T.gl__law_one_of k__law_one_of b__law_one_of (pv 0) (fa_cons (f_lst (fa_cons f_int (fa_cons f_int (fa_cons f_int fa_nil)))) fa_nil)) (fg_name (pg_name nd rfl (Or.inl rfl))))
    (fs_cons (fs_forR PassesOwn.never rfl (fa_cons (f_var 1 (pv 1)) fa_nil) (fg_name (pg_name nd rfl (Or.inl rfl))) (fs_cons (fs_asg (f_callO ((G__law_pick base).mono (by decide)) gu room (by rfl) T.gl__law_pick k__law_pick b__law_pick (pv 0) (fa_cons f_int fa_nil)) (fg_name (pg_name nd rfl (Or.inl rfl))))
    (fs_cons (fs_asg (f_addA (f_hvar 6 (pv 6)) (f_val (f_callO ((G__law_pick base).mono (by decide)) gu room (by rfl) T.gl__law_pick k__law_pick b__law_pick (pv 0) (fa_cons (f_callO ((G__law_one_of base).mono (by decide)) gu room (by rfl) T.gl__law_one_of k__law_one_of b__law_one_of (pv 0) (fa_cons (f_lst (fa_cons f_int (fa_cons f_int (fa_cons f_int fa_nil)))) fa_nil)) fa_nil)))) (fg_name (pg_name nd rfl (Or.inl rfl))))
    (fs_one (fs_append (pv 3) (f_tup (fa_cons (f_addA (f_val f_int) (f_val (f_mulA (f_hvar 4 (pv 4)) (f_hvar 5 (pv 5))))) (fa_cons (f_var 6 (pv 6)) (fa_cons (f_var 7 (pv 7)) (fa_cons (f_addA (f_val f_int) (f_val (f_callO ((G__law_pick base).mono (by decide)) gu room (by rfl) T.gl__law_pick k__law_pick b__law_pick (pv 0) (fa_cons (f_var 2 (pv 2)) fa_nil)))) fa_nil))))))))) (by rfl) T.no_range)
    (fs_one (fs_ret (f_var 3 (pv 3)))))))
theorem sc__law_pair : FnScope N__law_pair ["tape"] (defScope s__law_pair) := ⟨rfl, rfl, rfl, by decide +kernel, rfl, by decide +kernel, by decide +kernel⟩
abbrev Fd__law_pair (K : PySem.W.Frag) (fd : FuncData) : Prop := FunD K "_law_pair" "_law_pair" (defArgs s__law_pair) (defBody s__law_pair) (defScope s__law_pair) [] [] (He.ga K "_law_pair") fd
theorem bn__law_pair {fd : FuncData} (F : Fd__law_pair K fd) : Binds K fd ["tape"] [] := F.bindsN fun _ _ _ _ _ _ us hl => match us, hl with | [_], _ => rfl
theorem ok__law_pair (T : Tx K mg) : ∃ fd, (∀ base : Heap, FnG P w K mg base CX0 3 (He.ga K "_law_pair") fd ["tape"] (spF K F__law_pair)) ∧ Fd__law_pair K fd := by
  obtain ⟨fd__law_pick, G__law_pick, D__law_pick⟩ := ok__law_pick (P := P) (w := w) T
  have b__law_pick := bn__law_pick D__law_pick
  have k__law_pick := D__law_pick.kp
  obtain ⟨fd__law_one_of, G__law_one_of, D__law_one_of⟩ := ok__law_one_of (P := P) (w := w) T
  have b__law_one_of := bn__law_one_of D__law_one_of
  have k__law_one_of := D__law_one_of.kp
  obtain ⟨fd, F⟩ := T.fn__law_pair
  refine ⟨fd, fun base => def_ok F sc__law_pair fun cdv A outer s H E c gu room => ?_, F⟩
  have nd := (sc__law_pair).nd
  exact (fs_cons (fs_asg (f_callO ((G__law_pick base).mono (by decide)) gu room (by rfl) T.gl__law_pick k__law_pick b__law_pick (pv 0) (fa_cons f_int fa_nil)) (fg_name (pg_name nd rfl (Or.inl rfl))))
    (fs_cons (fs_asg (f_tup (fa_cons (f_var 1 (pv 1)) (fa_cons (f_addA (f_hvar 1 (pv 1)) (f_val (f_callO ((G__law_pick base).mono (by decide)) gu room (by rfl) T.gl__law_pick k__law_pick b__law_pick (pv 0) (fa_cons (f_callO ((G__law_one_of base).mono (by decide)) gu room (by rfl) T.gl__law_one_of k__law_one_of b__law_one_of (pv 0) (fa_cons (f_lst (fa_cons f_int (fa_cons f_int (fa_cons f_int fa_nil)))) fa_nil)) fa_nil)))) fa_nil))) (fg_name (pg_name nd rfl (Or.inl rfl))))
    (fs_one (fs_ret (f_callO ((G__law_one_of base).mono (by decide)) gu room (by rfl) T.gl__law_one_of k__law_one_of b__law_one_of (pv 0) (fa_cons (f_addA (f_val (f_mulA (f_val (f_lst (fa_cons (f_var 2 (pv 2)) fa_nil))) (f_val f_int))) (f_val (f_lst (fa_cons (f_tup (fa_cons f_int (fa_cons (f_pow f_int f_int) fa_nil))) (fa_cons (f_tup (fa_cons f_int (fa_cons f_int fa_nil))) (fa_cons (f_tup (fa_cons (f_pow f_int f_int) (fa_cons (f_pow f_int f_int) fa_nil))) fa_nil)))))) fa_nil))))))
theorem sc__law_pairs : FnScope N__law_pairs ["tape", "most"] (defScope s__law_pairs) := ⟨rfl, rfl, rfl, by decide +kernel, rfl, by decide +kernel, by decide +kernel⟩
abbrev Fd__law_pairs (K : PySem.W.Frag) (fd : FuncData) : Prop := FunD K "_law_pairs" "_law_pairs" (defArgs s__law_pairs) (defBody s__law_pairs) (defScope s__law_pairs) [] [] (He.ga K "_law_pairs") fd
theorem bn__law_pairs {fd : FuncData} (F : Fd__law_pairs K fd) : Binds K fd ["tape", "most"] [] := F.bindsN fun _ _ _ _ _ _ us hl => match us, hl with | [_, _], _ => rfl
theorem ok__law_pairs (T : Tx K mg) : ∃ fd, (∀ base : Heap, FnG P w K mg base CX0 4 (He.ga K "_law_pairs") fd ["tape", "most"] (spF K F__law_pairs)) ∧ Fd__law_pairs K fd := by
  obtain ⟨fd__law_pair, G__law_pair, D__law_pair⟩ := ok__law_pair (P := P) (w := w) T
  have b__law_pair := bn__law_pair D__law_pair
  have k__law_pair := D__law_pair.kp
  obtain ⟨fd__law_pick, G__law_pick, D__law_pick⟩ := ok__law_pick (P := P) (w := w) T
  have b__law_pick := bn__law_pick D__law_pick
  have k__law_pick := D__law_pick.kp
  obtain ⟨fd, F⟩ := T.fn__law_pairs
  refine ⟨fd, fun base => def_ok F sc__law_pairs fun cdv A outer s H E c gu room => ?_, F⟩
  have nd := (sc__law_pairs).nd
  exact (fs_one (fs_ret (fo_sh (fo_compR rfl nd (own := [("turn", 2)]) (blkOk_by (N := N__law_pairs) (sc := defScope s__law_pairs) (by decide +kernel)) (fa_cons (f_callO ((G__law_pick base).mono (by decide)) gu room (by rfl) T.gl__law_pick k__law_pick b__law_pick (pv 0) (fa_cons (f_addA (f_hvar 1 (pv 1)) (f_val f_int)) fa_nil)) fa_nil) (by rfl) T.no_range (fun _ _ _ _ _ => (tg_name (pg_name nd rfl (Or.inl rfl)) (by decide))) (fun _ _ _ _ _ => eT_nil) (fun _ _ _ _ _ => (eE_ok fun _ => (f_callO ((G__law_pair base).mono (by decide)) gu room (by rfl) T.gl__law_pair k__law_pair b__law_pair (pv 0) fa_nil)))))))
theorem sc_is_whole : FnScope N_is_whole ["value"] (defScope s_is_whole) := ⟨rfl, rfl, rfl, by decide +kernel, rfl, by decide +kernel, by decide +kernel⟩
abbrev Fd_is_whole (K : PySem.W.Frag) (fd : FuncData) : Prop := FunD K "is_whole" "is_whole" (defArgs s_is_whole) (defBody s_is_whole) (defScope s_is_whole) [] [] (He.ga K "is_whole") fd
theorem bn_is_whole {fd : FuncData} (F : Fd_is_whole K fd) : Binds K fd ["value"] [] := F.bindsN fun _ _ _ _ _ _ us hl => match us, hl with | [_], _ => rfl
theorem ok_is_whole (T : Tx K mg) : ∃ fd, (∀ base : Heap, FnOk P w K mg base CX0 1 (He.ga K "is_whole") fd ["value"] (spF K F_is_whole)) ∧ Fd_is_whole K fd := by
  obtain ⟨fd, F⟩ := T.fn_is_whole
  refine ⟨fd, fun base => def_okN F sc_is_whole fun cdv A outer s H E c room => ?_, F⟩
  have nd := (sc_is_whole).nd
  exact (fs_one (fs_ret (f_and (f_isi (T := "int") (by decide) (f_hvar 0 (pv 0)) (by rfl) T.no_isinstance (by rfl) T.no_int (by decide +kernel)) (f_one (f_not (f_isi (T := "bool") (by decide) (f_hvar 0 (pv 0)) (by rfl) T.no_isinstance (by rfl) T.no_bool (by decide +kernel)))))))
theorem sc_is_day : FnScope N_is_day ["value"] (defScope s_is_day) := ⟨rfl, rfl, rfl, by decide +kernel, rfl, by decide +kernel, by decide +kernel⟩
abbrev Fd_is_day (K : PySem.W.Frag) (fd : FuncData) : Prop := FunD K "is_day" "is_day" (defArgs s_is_day) (defBody s_is_day) (defScope s_is_day) [] [] (He.ga K "is_day") fd
theorem bn_is_day {fd : FuncData} (F : Fd_is_day K fd) : Binds K fd ["value"] [] := F.bindsN fun _ _ _ _ _ _ us hl => match us, hl with | [_], _ => rfl
theorem ok_is_day (T : Tx K mg) : ∃ fd, (∀ base : Heap, FnOk P w K mg base CX0 2 (He.ga K "is_day") fd ["value"] (spF K F_is_day)) ∧ Fd_is_day K fd := by
  obtain ⟨fd_is_whole, G_is_whole, D_is_whole⟩ := ok_is_whole (P := P) (w := w) T
  have b_is_whole := bn_is_whole D_is_whole
  have k_is_whole := D_is_whole.kp
  obtain ⟨fd, F⟩ := T.fn_is_day
  refine ⟨fd, fun base => def_okN F sc_is_day fun cdv A outer s H E c room => ?_, F⟩
  have nd := (sc_is_day).nd
  exact (fs_one (fs_ret (f_and (f_callN ((G_is_whole base).mono (by decide)) room (by rfl) T.gl_is_whole k_is_whole b_is_whole (fa_cons (f_var 0 (pv 0)) fa_nil)) (f_one (f_chain op_le op_le (o2_cmp _) (o2_cmp _) f_int (f_var 0 (pv 0)) (f_const (pe_glob (by rfl) T.in_LAST_DAY.choose_spec (show RelV (.int 1000000) _ from ⟨_, rfl⟩)) fun _ => .int _))))))
theorem sc_is_pair : FnScope N_is_pair ["value"] (defScope s_is_pair) := ⟨rfl, rfl, rfl, by decide +kernel, rfl, by decide +kernel, by decide +kernel⟩
abbrev Fd_is_pair (K : PySem.W.Frag) (fd : FuncData) : Prop := FunD K "is_pair" "is_pair" (defArgs s_is_pair) (defBody s_is_pair) (defScope s_is_pair) [] [] (He.ga K "is_pair") fd
theorem bn_is_pair {fd : FuncData} (F : Fd_is_pair K fd) : Binds K fd ["value"] [] := F.bindsN fun _ _ _ _ _ _ us hl => match us, hl with | [_], _ => rfl
theorem ok_is_pair (T : Tx K mg) : ∃ fd, (∀ base : Heap, FnOk P w K mg base CX0 3 (He.ga K "is_pair") fd ["value"] (spF K F_is_pair)) ∧ Fd_is_pair K fd := by
  obtain ⟨fd_is_day, G_is_day, D_is_day⟩ := ok_is_day (P := P) (w := w) T
  have b_is_day := bn_is_day D_is_day
  have k_is_day := D_is_day.kp
  obtain ⟨fd, F⟩ := T.fn_is_pair
  refine ⟨fd, fun base => def_okN F sc_is_pair fun cdv A outer s H E c room => ?_, F⟩
  have nd := (sc_is_pair).nd
  exact (fs_cons (fs_if (ft_not (PW.pt (fw_and (ft_b (f_isi (T := "tuple") (by decide) (f_hvar 0 (pv 0)) (by rfl) T.no_isinstance (by rfl) T.no_tuple (by decide +kernel))) (fw_and1 (ft_eq room (f_val (f_len (f_hvar 0 (pv 0)) (by rfl) T.no_len)) (f_val f_int)))))) (fs_one (fs_ret f_bl)) fs_nil)
    (fs_cons (fs_asg (f_var 0 (pv 0)) (fg_tup rfl (fgs_cons (fg_name (pg_name nd rfl (Or.inl rfl))) (fgs_cons (fg_name (pg_name nd rfl (Or.inl rfl))) fgs_nil)) rfl))
    (fs_one (fs_ret (f_and (f_callN ((G_is_day base).mono (by decide)) room (by rfl) T.gl_is_day k_is_day b_is_day (fa_cons (f_var 1 (pv 1)) fa_nil)) (f_and (f_callN ((G_is_day base).mono (by decide)) room (by rfl) T.gl_is_day k_is_day b_is_day (fa_cons (f_var 2 (pv 2)) fa_nil)) (f_one (f_le (f_hvar 1 (pv 1)) (f_hvar 2 (pv 2))))))))))
theorem sc__corners_among : FnScope N__corners_among ["pairs"] (defScope s__corners_among) := ⟨rfl, rfl, rfl, by decide +kernel, rfl, by decide +kernel, by decide +kernel⟩
abbrev Fd__corners_among (K : PySem.W.Frag) (fd : FuncData) : Prop := FunD K "_corners_among" "_corners_among" (defArgs s__corners_among) (defBody s__corners_among) (defScope s__corners_among) [] [] (He.ga K "_corners_among") fd
theorem bn__corners_among {fd : FuncData} (F : Fd__corners_among K fd) : Binds K fd ["pairs"] [] := F.bindsN fun _ _ _ _ _ _ us hl => match us, hl with | [_], _ => rfl
theorem ok__corners_among (T : Tx K mg) : ∃ fd, (∀ base : Heap, FnOk P w K mg base CX0 1 (He.ga K "_corners_among") fd ["pairs"] (spF K F__corners_among)) ∧ Fd__corners_among K fd := by
  obtain ⟨fd, F⟩ := T.fn__corners_among
  refine ⟨fd, fun base => def_okN F sc__corners_among fun cdv A outer s H E c room => ?_, F⟩
  have nd := (sc__corners_among).nd
  exact (fs_cons (fs_own (fo_lst fa_nil) nd rfl (Or.inl rfl))
    (fs_cons (fs_forL PassesOwn.never rfl (f_sorted (fa_cons (f_var 0 (pv 0)) fa_nil) (by rfl) T.no_sorted) (fg_tup rfl (fgs_cons (fg_name (pg_name nd rfl (Or.inl rfl))) (fgs_cons (fg_name (pg_name nd rfl (Or.inl rfl))) fgs_nil)) rfl) (fs_cons (fs_while PassesOwn.never (PW.pt (fw_and (ft_tru (f_hvar 1 (pv 1))) (fw_and1 (ft_ge (f_val (f_item (f_val (f_item (f_hvar 1 (pv 1)) (f_val (f_neg f_int)) (fun _ _ => rfl))) (f_val f_int) (fun _ _ => rfl))) (f_hvar 3 (pv 3)))))) (fs_one (fs_expr (f_pop (pv 1)))))
    (fs_one (fs_if (PW.pt (fw_or (ft_not (ft_tru (f_hvar 1 (pv 1)))) (fw_or1 (ft_lt (f_val (f_item (f_val (f_item (f_hvar 1 (pv 1)) (f_val (f_neg f_int)) (fun _ _ => rfl))) (f_val f_int) (fun _ _ => rfl))) (f_hvar 2 (pv 2)))))) (fs_one (fs_append (pv 1) (f_tup (fa_cons (f_var 2 (pv 2)) (fa_cons (f_var 3 (pv 3)) fa_nil))))) fs_nil))))
    (fs_one (fs_ret (f_var 1 (pv 1))))))
theorem sc_Stairs____init__ : FnScope N_Stairs____init__ ["self", "pairs"] (defScope s_Stairs____init__) := ⟨rfl, rfl, rfl, by decide +kernel, rfl, by decide +kernel, by decide +kernel⟩
abbrev Fd_Stairs____init__ (K : PySem.W.Frag) (fd : FuncData) : Prop := FunD K "__init__" "Stairs.__init__" (defArgs s_Stairs____init__) (defBody s_Stairs____init__) (defScope s_Stairs____init__) [] [] (He.ma K (He.ga K "Stairs") "__init__") fd
theorem ok_Stairs____init__ (T : Tx K mg) : ∃ fd, (∀ base : Heap, FnR P w K mg base CX0 4 (He.ma K (He.ga K "Stairs") "__init__") (spS K F_Stairs____init__)) ∧ Fd_Stairs____init__ K fd := by
  obtain ⟨fd_is_pair, G_is_pair, D_is_pair⟩ := ok_is_pair (P := P) (w := w) T
  have b_is_pair := bn_is_pair D_is_pair
  have k_is_pair := D_is_pair.kp
  obtain ⟨fd__corners_among, G__corners_among, D__corners_among⟩ := ok__corners_among (P := P) (w := w) T
  have b__corners_among := bn__corners_among D__corners_among
  have k__corners_among := D__corners_among.kp
  obtain ⟨fd, F⟩ := T.fn_Stairs____init__
  refine ⟨fd, fun base => def_star F sc_Stairs____init__ (fun _ _ _ _ _ _ us rest hl => StX.bind_star1 (B := fun us => bindArgs _ ⟨us, []⟩) (fun _ => rfl) (fun _ _ _ => rfl) us rest hl) fun cdv A outer s H E c room => ?_, F⟩
  have nd := (sc_Stairs____init__).nd
  exact (fs_cons (fs_forT PassesOwn.never rfl (f_var 1 (pv 1)) (fg_name (pg_name nd rfl (Or.inl rfl))) (fs_one (fs_if (ft_not (ft_b (f_callN ((G_is_pair base).mono (by decide)) room (by rfl) T.gl_is_pair k_is_pair b_is_pair (fa_cons (f_var 2 (pv 2)) fa_nil)))) (fs_one fs_bad) fs_nil)))
    (fs_one (fs_fld (pv 0) (f_callN ((G__corners_among base).mono (by decide)) room (by rfl) T.gl__corners_among k__corners_among b__corners_among (fa_cons (f_var 1 (pv 1)) fa_nil)) T.cl_Stairs T.na_Stairs__corners)))
theorem sc__law_made : FnScope N__law_made ["pairs"] (defScope s__law_made) := ⟨rfl, rfl, rfl, by decide +kernel, rfl, by decide +kernel, by decide +kernel⟩
abbrev Fd__law_made (K : PySem.W.Frag) (fd : FuncData) : Prop := FunD K "_law_made" "_law_made" (defArgs s__law_made) (defBody s__law_made) (defScope s__law_made) [] [] (He.ga K "_law_made") fd
theorem bn__law_made {fd : FuncData} (F : Fd__law_made K fd) : Binds K fd ["pairs"] [] := F.bindsN fun _ _ _ _ _ _ us hl => match us, hl with | [_], _ => rfl
theorem ok__law_made (T : Tx K mg) : ∃ fd, (∀ base : Heap, FnG P w K mg base CX0 6 (He.ga K "_law_made") fd ["pairs"] (spF K F__law_made)) ∧ Fd__law_made K fd := by
  obtain ⟨fd_Stairs____init__, R_Stairs____init__, D_Stairs____init__⟩ := ok_Stairs____init__ (P := P) (w := w) T
  obtain ⟨fd, F⟩ := T.fn__law_made
  refine ⟨fd, fun base => def_ok F sc__law_made fun cdv A outer s H E c gu room => ?_, F⟩
  have nd := (sc__law_made).nd
  exact (fs_cons (fs_if (ft_eq room (f_val (f_len (f_hvar 0 (pv 0)) (by rfl) T.no_len)) (f_val f_int)) (fs_one (fs_ret (fo_sh (fo_makeS0 T.mk_Stairs (R_Stairs____init__ base) (room.mono (by decide)) (by rfl) T.gl_Stairs)))) fs_nil)
    (fs_cons (fs_if (ft_eq room (f_val (f_len (f_hvar 0 (pv 0)) (by rfl) T.no_len)) (f_val f_int)) (fs_one (fs_ret (fo_sh (fo_makeS T.mk_Stairs (R_Stairs____init__ base) (room.mono (by decide)) (by rfl) T.gl_Stairs (fa_cons (f_item (f_hvar 0 (pv 0)) (f_val f_int) (fun _ _ => rfl)) fa_nil))))) fs_nil)
    (fs_cons (fs_if (ft_eq room (f_val (f_len (f_hvar 0 (pv 0)) (by rfl) T.no_len)) (f_val f_int)) (fs_one (fs_ret (fo_sh (fo_makeS T.mk_Stairs (R_Stairs____init__ base) (room.mono (by decide)) (by rfl) T.gl_Stairs (fa_cons (f_item (f_hvar 0 (pv 0)) (f_val f_int) (fun _ _ => rfl)) (fa_cons (f_item (f_hvar 0 (pv 0)) (f_val f_int) (fun _ _ => rfl)) fa_nil)))))) fs_nil)
    (fs_cons (fs_if (ft_eq room (f_val (f_len (f_hvar 0 (pv 0)) (by rfl) T.no_len)) (f_val f_int)) (fs_one (fs_ret (fo_sh (fo_makeS T.mk_Stairs (R_Stairs____init__ base) (room.mono (by decide)) (by rfl) T.gl_Stairs (fa_cons (f_item (f_hvar 0 (pv 0)) (f_val f_int) (fun _ _ => rfl)) (fa_cons (f_item (f_hvar 0 (pv 0)) (f_val f_int) (fun _ _ => rfl)) (fa_cons (f_item (f_hvar 0 (pv 0)) (f_val f_int) (fun _ _ => rfl)) fa_nil))))))) fs_nil)
    (fs_cons (fs_if (ft_eq room (f_val (f_len (f_hvar 0 (pv 0)) (by rfl) T.no_len)) (f_val f_int)) (fs_one (fs_ret (fo_sh (fo_makeS T.mk_Stairs (R_Stairs____init__ base) (room.mono (by decide)) (by rfl) T.gl_Stairs (fa_cons (f_item (f_hvar 0 (pv 0)) (f_val f_int) (fun _ _ => rfl)) (fa_cons (f_item (f_hvar 0 (pv 0)) (f_val f_int) (fun _ _ => rfl)) (fa_cons (f_item (f_hvar 0 (pv 0)) (f_val f_int) (fun _ _ => rfl)) (fa_cons (f_item (f_hvar 0 (pv 0)) (f_val f_int) (fun _ _ => rfl)) fa_nil)))))))) fs_nil)
    (fs_one (fs_ret (fo_sh (fo_makeS T.mk_Stairs (R_Stairs____init__ base) (room.mono (by decide)) (by rfl) T.gl_Stairs (fa_cons (f_item (f_hvar 0 (pv 0)) (f_val f_int) (fun _ _ => rfl)) (fa_cons (f_item (f_hvar 0 (pv 0)) (f_val f_int) (fun _ _ => rfl)) (fa_cons (f_item (f_hvar 0 (pv 0)) (f_val f_int) (fun _ _ => rfl)) (fa_cons (f_item (f_hvar 0 (pv 0)) (f_val f_int) (fun _ _ => rfl)) (fa_cons (f_item (f_hvar 0 (pv 0)) (f_val f_int) (fun _ _ => rfl)) fa_nil))))))))))))))
theorem sc_read_number : FnScope N_read_number ["word"] (defScope s_read_number) := ⟨rfl, rfl, rfl, by decide +kernel, rfl, by decide +kernel, by decide +kernel⟩
abbrev Fd_read_number (K : PySem.W.Frag) (fd : FuncData) : Prop := FunD K "read_number" "read_number" (defArgs s_read_number) (defBody s_read_number) (defScope s_read_number) [] [] (He.ga K "read_number") fd
theorem bn_read_number {fd : FuncData} (F : Fd_read_number K fd) : Binds K fd ["word"] [] := F.bindsN fun _ _ _ _ _ _ us hl => match us, hl with | [_], _ => rfl
theorem ok_read_number (T : Tx K mg) : ∃ fd, (∀ base : Heap, FnOk P w K mg base CX0 1 (He.ga K "read_number") fd ["word"] (spF K F_read_number)) ∧ Fd_read_number K fd := by
  obtain ⟨fd, F⟩ := T.fn_read_number
  refine ⟨fd, fun base => def_okN F sc_read_number fun cdv A outer s H E c room => ?_, F⟩
  have nd := (sc_read_number).nd
  exact (fs_cons (fs_if (PW.pt (fw_or (ft_not (PW.pt (fw_and (ft_b (f_isascii (f_var 0 (pv 0)))) (fw_and1 (ft_b (f_isdigit (f_var 0 (pv 0)))))))) (fw_or1 (ft_gt (f_val (f_len (f_hvar 0 (pv 0)) (by rfl) T.no_len)) (f_val (f_const (pe_glob (by rfl) T.in_MOST_DIGITS.choose_spec (show RelV (.int 60) _ from ⟨_, rfl⟩)) fun _ => .int _)))))) (fs_one (fs_ret f_non)) fs_nil)
    (fs_cons (fs_if (PW.pt (fw_and (ft_ne room (f_hvar 0 (pv 0)) (f_val f_str)) (fw_and1 (ft_b (f_starts (f_var 0 (pv 0)) f_str))))) (fs_one (fs_ret f_non)) fs_nil)
    (fs_one (fs_ret (f_intS (fa_cons (f_var 0 (pv 0)) fa_nil) (by rfl) T.no_int)))))
theorem sc__pairs_told : FnScope N__pairs_told ["text"] (defScope s__pairs_told) := ⟨rfl, rfl, rfl, by decide +kernel, rfl, by decide +kernel, by decide +kernel⟩
abbrev Fd__pairs_told (K : PySem.W.Frag) (fd : FuncData) : Prop := FunD K "_pairs_told" "_pairs_told" (defArgs s__pairs_told) (defBody s__pairs_told) (defScope s__pairs_told) [] [] (He.ga K "_pairs_told") fd
theorem bn__pairs_told {fd : FuncData} (F : Fd__pairs_told K fd) : Binds K fd ["text"] [] := F.bindsN fun _ _ _ _ _ _ us hl => match us, hl with | [_], _ => rfl
theorem ok__pairs_told (T : Tx K mg) : ∃ fd, (∀ base : Heap, FnOk P w K mg base CX0 4 (He.ga K "_pairs_told") fd ["text"] (spF K F__pairs_told)) ∧ Fd__pairs_told K fd := by
  obtain ⟨fd_read_number, G_read_number, D_read_number⟩ := ok_read_number (P := P) (w := w) T
  have b_read_number := bn_read_number D_read_number
  have k_read_number := D_read_number.kp
  obtain ⟨fd_is_pair, G_is_pair, D_is_pair⟩ := ok_is_pair (P := P) (w := w) T
  have b_is_pair := bn_is_pair D_is_pair
  have k_is_pair := D_is_pair.kp
  obtain ⟨fd, F⟩ := T.fn__pairs_told
  refine ⟨fd, fun base => def_okN F sc__pairs_told fun cdv A outer s H E c room => ?_, F⟩
  have nd := (sc__pairs_told).nd
  exact (fs_cons (fs_if (ft_not (ft_b (f_isi (T := "str") (by decide) (f_hvar 0 (pv 0)) (by rfl) T.no_isinstance (by rfl) T.no_str (by decide +kernel)))) (fs_one (fs_ret f_non)) fs_nil)
    (fs_cons (fs_own (fo_lst fa_nil) nd rfl (Or.inl rfl))
    (fs_cons (fs_if (ft_eq room (f_hvar 0 (pv 0)) (f_val f_str)) (fs_one (fs_ret (f_var 1 (pv 1)))) fs_nil)
    (fs_cons (fs_forL PassesOwn.never rfl (f_split (f_var 0 (pv 0)) f_str) (fg_name (pg_name nd rfl (Or.inl rfl))) (fs_cons (fs_asg (f_tuple (fa_cons (fo_sh (fo_compL rfl nd (own := [("word", 4)]) (blkOk_by (N := N__pairs_told) (sc := defScope s__pairs_told) (by decide +kernel)) (f_split (f_var 2 (pv 2)) f_str) (fun _ _ _ _ _ => (tg_name (pg_name nd rfl (Or.inl rfl)) (by decide))) (fun _ _ _ _ _ => eT_nil) (fun _ _ _ _ _ => (eE_ok fun _ => (f_callN ((G_read_number base).mono (by decide)) room (by rfl) T.gl_read_number k_read_number b_read_number (fa_cons (f_var 4 (pv 4)) fa_nil)))))) fa_nil) (by rfl) T.no_tuple) (fg_name (pg_name nd rfl (Or.inl rfl))))
    (fs_cons (fs_if (ft_not (ft_b (f_callN ((G_is_pair base).mono (by decide)) room (by rfl) T.gl_is_pair k_is_pair b_is_pair (fa_cons (f_var 3 (pv 3)) fa_nil)))) (fs_one (fs_ret f_non)) fs_nil)
    (fs_one (fs_append (pv 1) (f_var 3 (pv 3)))))))
    (fs_one (fs_ret (f_var 1 (pv 1))))))))
theorem sc_Stairs__text : FnScope N_Stairs__text ["self"] (defScope s_Stairs__text) := ⟨rfl, rfl, rfl, by decide +kernel, rfl, by decide +kernel, by decide +kernel⟩
abbrev Fd_Stairs__text (K : PySem.W.Frag) (fd : FuncData) : Prop := FunD K "text" "Stairs.text" (defArgs s_Stairs__text) (defBody s_Stairs__text) (defScope s_Stairs__text) [] [] (pgA K "Stairs" "text") fd
theorem bn_Stairs__text {fd : FuncData} (F : Fd_Stairs__text K fd) : Binds K fd ["self"] [] := F.bindsN fun _ _ _ _ _ _ us hl => match us, hl with | [_], _ => rfl
theorem ok_Stairs__text (T : Tx K mg) : ∃ fd, (∀ base : Heap, FnOk P w K mg base CX0 1 (pgA K "Stairs" "text") fd ["self"] (spF K F_Stairs__text)) ∧ Fd_Stairs__text K fd := by
  obtain ⟨fd, F⟩ := T.fn_Stairs__text
  refine ⟨fd, fun base => def_okN F sc_Stairs__text fun cdv A outer s H E c room => ?_, F⟩
  have nd := (sc_Stairs__text).nd
  exact (fs_one (fs_ret (f_join f_str (fo_sh (fo_compL rfl nd (own := [("day", 1), ("keeps", 2)]) (blkOk_by (N := N_Stairs__text) (sc := defScope s_Stairs__text) (by decide +kernel)) (f_fld (f_hvar 0 (pv 0)) T.cl_Stairs T.na_Stairs__corners) (fun _ _ _ _ _ => (tg_tupK K [1, 2] rfl rfl (pgs_cons (pg_name nd rfl (Or.inl rfl)) (pgs_cons (pg_name nd rfl (Or.inl rfl)) pgs_nil)) rfl (by decide))) (fun _ _ _ _ _ => eT_nil) (fun _ _ _ _ _ => (eE_ok fun _ => (f_joined (.cons (f_fmt (f_var 1 (pv 1))) (.cons f_str (.cons (f_fmt (f_var 2 (pv 2))) .nil)))))))))))
theorem sc_Stairs__read : FnScope N_Stairs__read ["cls", "text"] (defScope s_Stairs__read) := ⟨rfl, rfl, rfl, by decide +kernel, rfl, by decide +kernel, by decide +kernel⟩
abbrev Fd_Stairs__read (K : PySem.W.Frag) (fd : FuncData) : Prop := FunD K "read" "Stairs.read" (defArgs s_Stairs__read) (defBody s_Stairs__read) (defScope s_Stairs__read) [] [] (cmA K "Stairs" "read") fd
theorem bn_Stairs__read {fd : FuncData} (F : Fd_Stairs__read K fd) : Binds K fd ["cls", "text"] [] := F.bindsN fun _ _ _ _ _ _ us hl => match us, hl with | [_, _], _ => rfl
theorem ok_Stairs__read (T : Tx K mg) : ∃ fd, (∀ base : Heap, FnOk P w K mg base CX0 6 (cmA K "Stairs" "read") fd ["cls", "text"] (spF K F_Stairs__read)) ∧ Fd_Stairs__read K fd := by
  obtain ⟨fd__pairs_told, G__pairs_told, D__pairs_told⟩ := ok__pairs_told (P := P) (w := w) T
  have b__pairs_told := bn__pairs_told D__pairs_told
  have k__pairs_told := D__pairs_told.kp
  obtain ⟨fd_Stairs____init__, R_Stairs____init__, D_Stairs____init__⟩ := ok_Stairs____init__ (P := P) (w := w) T
  obtain ⟨fd_Stairs__text, G_Stairs__text, D_Stairs__text⟩ := ok_Stairs__text (P := P) (w := w) T
  have b_Stairs__text := bn_Stairs__text D_Stairs__text
  have k_Stairs__text := D_Stairs__text.kp
  obtain ⟨fd, F⟩ := T.fn_Stairs__read
  refine ⟨fd, fun base => def_okN F sc_Stairs__read fun cdv A outer s H E c room => ?_, F⟩
  have nd := (sc_Stairs__read).nd
  exact (fs_cons (fs_asg (f_callN ((G__pairs_told base).mono (by decide)) room (by rfl) T.gl__pairs_told k__pairs_told b__pairs_told (fa_cons (f_var 1 (pv 1)) fa_nil)) (fg_name (pg_name nd rfl (Or.inl rfl))))
    (fs_cons (fs_if (ft_isN (f_hvar 2 (pv 2))) (fs_one fs_bad) fs_nil)
    (fs_cons (fs_asg (fo_sh (fo_makeSv T.mk_Stairs (R_Stairs____init__ base) (room.mono (by decide)) (pv 0) (f_var 2 (pv 2)))) (fg_name (pg_name nd rfl (Or.inl rfl))))
    (fs_cons (fs_if (ft_ne room (f_val (f_prop (f_var 3 (pv 3)) T.cl_Stairs T.pr_Stairs__text (G_Stairs__text base) (room.mono (by decide)) b_Stairs__text)) (f_hvar 1 (pv 1))) (fs_one fs_bad) fs_nil)
    (fs_one (fs_ret (f_var 3 (pv 3))))))))
theorem sc__law_has : FnScope N__law_has ["pairs", "pair"] (defScope s__law_has) := ⟨rfl, rfl, rfl, by decide +kernel, rfl, by decide +kernel, by decide +kernel⟩
abbrev Fd__law_has (K : PySem.W.Frag) (fd : FuncData) : Prop := FunD K "_law_has" "_law_has" (defArgs s__law_has) (defBody s__law_has) (defScope s__law_has) [] [] (He.ga K "_law_has") fd
theorem bn__law_has {fd : FuncData} (F : Fd__law_has K fd) : Binds K fd ["pairs", "pair"] [] := F.bindsN fun _ _ _ _ _ _ us hl => match us, hl with | [_, _], _ => rfl
theorem ok__law_has (T : Tx K mg) : ∃ fd, (∀ base : Heap, FnG P w K mg base CX0 1 (He.ga K "_law_has") fd ["pairs", "pair"] (spF K F__law_has)) ∧ Fd__law_has K fd := by
  obtain ⟨fd, F⟩ := T.fn__law_has
  refine ⟨fd, fun base => def_ok F sc__law_has fun cdv A outer s H E c gu room => ?_, F⟩
  have nd := (sc__law_has).nd
  exact (fs_one (fs_ret (f_ne room (f_val (fo_sh (fo_compL rfl nd (own := [("one", 2)]) (blkOk_by (N := N__law_has) (sc := defScope s__law_has) (by decide +kernel)) (f_var 0 (pv 0)) (fun _ _ _ _ _ => (tg_name (pg_name nd rfl (Or.inl rfl)) (by decide))) (fun _ _ _ _ _ => (eT_one fun _ => (PW.pt (fw_and (ft_le (f_val (f_item (f_hvar 1 (pv 1)) (f_val f_int) (fun _ _ => rfl))) (f_val (f_item (f_hvar 2 (pv 2)) (f_val f_int) (fun _ _ => rfl)))) (fw_and1 (ft_ge (f_val (f_item (f_hvar 1 (pv 1)) (f_val f_int) (fun _ _ => rfl))) (f_val (f_item (f_hvar 2 (pv 2)) (f_val f_int) (fun _ _ => rfl))))))))) (fun _ _ _ _ _ => (eE_ok fun _ => (f_var 2 (pv 2))))))) (f_val (f_lst fa_nil)))))
theorem sc__law_within : FnScope N__law_within ["goods", "pairs"] (defScope s__law_within) := ⟨rfl, rfl, rfl, by decide +kernel, rfl, by decide +kernel, by decide +kernel⟩
abbrev Fd__law_within (K : PySem.W.Frag) (fd : FuncData) : Prop := FunD K "_law_within" "_law_within" (defArgs s__law_within) (defBody s__law_within) (defScope s__law_within) [] [] (He.ga K "_law_within") fd
theorem bn__law_within {fd : FuncData} (F : Fd__law_within K fd) : Binds K fd ["goods", "pairs"] [] := F.bindsN fun _ _ _ _ _ _ us hl => match us, hl with | [_, _], _ => rfl
theorem ok__law_within (T : Tx K mg) : ∃ fd, (∀ base : Heap, FnG P w K mg base CX0 2 (He.ga K "_law_within") fd ["goods", "pairs"] (spF K F__law_within)) ∧ Fd__law_within K fd := by
  obtain ⟨fd__law_has, G__law_has, D__law_has⟩ := ok__law_has (P := P) (w := w) T
  have b__law_has := bn__law_has D__law_has
  have k__law_has := D__law_has.kp
  obtain ⟨fd, F⟩ := T.fn__law_within
  refine ⟨fd, fun base => def_ok F sc__law_within fun cdv A outer s H E c gu room => ?_, F⟩
  have nd := (sc__law_within).nd
  exact (fs_one (fs_ret (f_sumI rfl (fa_cons (fo_sh (fo_compL rfl nd (own := [("one", 2)]) (blkOk_by (N := N__law_within) (sc := defScope s__law_within) (by decide +kernel)) (f_var 0 (pv 0)) (fun _ _ _ _ _ => (tg_name (pg_name nd rfl (Or.inl rfl)) (by decide))) (fun _ _ _ _ _ => (eT_one fun _ => (ft_b (f_call ((G__law_has base).mono (by decide)) gu room (by rfl) T.gl__law_has k__law_has b__law_has (fa_cons (f_var 1 (pv 1)) (fa_cons (f_tup (fa_cons (f_item (f_hvar 2 (pv 2)) (f_val f_int) (fun _ _ => rfl)) (fa_cons (f_item (f_hvar 2 (pv 2)) (f_val f_int) (fun _ _ => rfl)) fa_nil))) fa_nil)))))) (fun _ _ _ _ _ => (eE_ok fun _ => (f_item (f_hvar 2 (pv 2)) (f_val f_int) (fun _ _ => rfl)))))) fa_nil) (by rfl) T.no_sum)))
theorem sc_Stairs____contains__ : FnScope N_Stairs____contains__ ["self", "value"] (defScope s_Stairs____contains__) := ⟨rfl, rfl, rfl, by decide +kernel, rfl, by decide +kernel, by decide +kernel⟩
abbrev Fd_Stairs____contains__ (K : PySem.W.Frag) (fd : FuncData) : Prop := FunD K "__contains__" "Stairs.__contains__" (defArgs s_Stairs____contains__) (defBody s_Stairs____contains__) (defScope s_Stairs____contains__) [] [] (He.ma K (He.ga K "Stairs") "__contains__") fd
theorem bn_Stairs____contains__ {fd : FuncData} (F : Fd_Stairs____contains__ K fd) : Binds K fd ["self", "value"] [] := F.bindsN fun _ _ _ _ _ _ us hl => match us, hl with | [_, _], _ => rfl
theorem ok_Stairs____contains__ (T : Tx K mg) : ∃ fd, (∀ base : Heap, FnOk P w K mg base CX0 4 (He.ma K (He.ga K "Stairs") "__contains__") fd ["self", "value"] (spF K F_Stairs____contains__)) ∧ Fd_Stairs____contains__ K fd := by
  obtain ⟨fd_is_pair, G_is_pair, D_is_pair⟩ := ok_is_pair (P := P) (w := w) T
  have b_is_pair := bn_is_pair D_is_pair
  have k_is_pair := D_is_pair.kp
  obtain ⟨fd, F⟩ := T.fn_Stairs____contains__
  refine ⟨fd, fun base => def_okN F sc_Stairs____contains__ fun cdv A outer s H E c room => ?_, F⟩
  have nd := (sc_Stairs____contains__).nd
  exact (fs_cons (fs_if (ft_not (ft_b (f_callN ((G_is_pair base).mono (by decide)) room (by rfl) T.gl_is_pair k_is_pair b_is_pair (fa_cons (f_var 1 (pv 1)) fa_nil)))) (fs_one (fs_ret f_bl)) fs_nil)
    (fs_cons (fs_forL PassesOwn.never rfl (f_fld (f_hvar 0 (pv 0)) T.cl_Stairs T.na_Stairs__corners) (fg_tup rfl (fgs_cons (fg_name (pg_name nd rfl (Or.inl rfl))) (fgs_cons (fg_name (pg_name nd rfl (Or.inl rfl))) fgs_nil)) rfl) (fs_one (fs_if (ft_le (f_val (f_item (f_hvar 1 (pv 1)) (f_val f_int) (fun _ _ => rfl))) (f_hvar 2 (pv 2))) (fs_one (fs_ret (f_ge (f_val (f_item (f_hvar 1 (pv 1)) (f_val f_int) (fun _ _ => rfl))) (f_hvar 3 (pv 3))))) fs_nil)))
    (fs_one (fs_ret f_bl))))
theorem sc_pair_of : FnScope N_pair_of ["goods"] (defScope s_pair_of) := ⟨rfl, rfl, rfl, by decide +kernel, rfl, by decide +kernel, by decide +kernel⟩
abbrev Fd_pair_of (K : PySem.W.Frag) (fd : FuncData) : Prop := FunD K "pair_of" "pair_of" (defArgs s_pair_of) (defBody s_pair_of) (defScope s_pair_of) [] [] (He.ga K "pair_of") fd
theorem bn_pair_of {fd : FuncData} (F : Fd_pair_of K fd) : Binds K fd ["goods"] [] := F.bindsN fun _ _ _ _ _ _ us hl => match us, hl with | [_], _ => rfl
theorem ok_pair_of (T : Tx K mg) : ∃ fd, (∀ base : Heap, FnOk P w K mg base CX0 1 (He.ga K "pair_of") fd ["goods"] (spF K F_pair_of)) ∧ Fd_pair_of K fd := by
  obtain ⟨fd, F⟩ := T.fn_pair_of
  refine ⟨fd, fun base => def_okN F sc_pair_of fun cdv A outer s H E c room => ?_, F⟩
  have nd := (sc_pair_of).nd
  exact (fs_one (fs_ret (f_tup (fa_cons (f_item (f_hvar 0 (pv 0)) (f_val f_int) (fun _ _ => rfl)) (fa_cons (f_item (f_hvar 0 (pv 0)) (f_val f_int) (fun _ _ => rfl)) fa_nil)))))
theorem sc_supply : FnScope N_supply ["lots", "stairs"] (defScope s_supply) := ⟨rfl, rfl, rfl, by decide +kernel, rfl, by decide +kernel, by decide +kernel⟩
abbrev Fd_supply (K : PySem.W.Frag) (fd : FuncData) : Prop := FunD K "supply" "supply" (defArgs s_supply) (defBody s_supply) (defScope s_supply) [] [] (He.ga K "supply") fd
theorem bn_supply {fd : FuncData} (F : Fd_supply K fd) : Binds K fd ["lots", "stairs"] [] := F.bindsN fun _ _ _ _ _ _ us hl => match us, hl with | [_, _], _ => rfl
theorem ok_supply (T : Tx K mg) : ∃ fd, (∀ base : Heap, FnOk P w K mg base CX0 5 (He.ga K "supply") fd ["lots", "stairs"] (spF K F_supply)) ∧ Fd_supply K fd := by
  obtain ⟨fd_Stairs____contains__, G_Stairs____contains__, D_Stairs____contains__⟩ := ok_Stairs____contains__ (P := P) (w := w) T
  have b_Stairs____contains__ := bn_Stairs____contains__ D_Stairs____contains__
  have k_Stairs____contains__ := D_Stairs____contains__.kp
  obtain ⟨fd_pair_of, G_pair_of, D_pair_of⟩ := ok_pair_of (P := P) (w := w) T
  have b_pair_of := bn_pair_of D_pair_of
  have k_pair_of := D_pair_of.kp
  obtain ⟨fd, F⟩ := T.fn_supply
  refine ⟨fd, fun base => def_okN F sc_supply fun cdv A outer s H E c room => ?_, F⟩
  have nd := (sc_supply).nd
  exact (fs_one (fs_ret (f_sumI rfl (fa_cons (fo_sh (fo_compL rfl nd (own := [("lot", 2)]) (blkOk_by (N := N_supply) (sc := defScope s_supply) (by decide +kernel)) (f_var 0 (pv 0)) (fun _ _ _ _ _ => (tg_name (pg_name nd rfl (Or.inl rfl)) (by decide))) (fun _ _ _ _ _ => (eT_one fun _ => (ft_inO (G_Stairs____contains__ base) T.me_Stairs____contains__ (room.mono (by decide)) b_Stairs____contains__ (f_callN ((G_pair_of base).mono (by decide)) room (by rfl) T.gl_pair_of k_pair_of b_pair_of (fa_cons (f_var 2 (pv 2)) fa_nil)) (f_var 1 (pv 1))))) (fun _ _ _ _ _ => (eE_ok fun _ => (f_item (f_hvar 2 (pv 2)) (f_val f_int) (fun _ _ => rfl)))))) fa_nil) (by rfl) T.no_sum)))
theorem sc_demand : FnScope N_demand ["orders", "stairs"] (defScope s_demand) := ⟨rfl, rfl, rfl, by decide +kernel, rfl, by decide +kernel, by decide +kernel⟩
abbrev Fd_demand (K : PySem.W.Frag) (fd : FuncData) : Prop := FunD K "demand" "demand" (defArgs s_demand) (defBody s_demand) (defScope s_demand) [] [] (He.ga K "demand") fd
theorem bn_demand {fd : FuncData} (F : Fd_demand K fd) : Binds K fd ["orders", "stairs"] [] := F.bindsN fun _ _ _ _ _ _ us hl => match us, hl with | [_, _], _ => rfl
theorem ok_demand (T : Tx K mg) : ∃ fd, (∀ base : Heap, FnOk P w K mg base CX0 5 (He.ga K "demand") fd ["orders", "stairs"] (spF K F_demand)) ∧ Fd_demand K fd := by
  obtain ⟨fd_Stairs____contains__, G_Stairs____contains__, D_Stairs____contains__⟩ := ok_Stairs____contains__ (P := P) (w := w) T
  have b_Stairs____contains__ := bn_Stairs____contains__ D_Stairs____contains__
  have k_Stairs____contains__ := D_Stairs____contains__.kp
  obtain ⟨fd_pair_of, G_pair_of, D_pair_of⟩ := ok_pair_of (P := P) (w := w) T
  have b_pair_of := bn_pair_of D_pair_of
  have k_pair_of := D_pair_of.kp
  obtain ⟨fd, F⟩ := T.fn_demand
  refine ⟨fd, fun base => def_okN F sc_demand fun cdv A outer s H E c room => ?_, F⟩
  have nd := (sc_demand).nd
  exact (fs_one (fs_ret (f_sumI rfl (fa_cons (fo_sh (fo_compL rfl nd (own := [("order", 2)]) (blkOk_by (N := N_demand) (sc := defScope s_demand) (by decide +kernel)) (f_var 0 (pv 0)) (fun _ _ _ _ _ => (tg_name (pg_name nd rfl (Or.inl rfl)) (by decide))) (fun _ _ _ _ _ => (eT_one fun _ => (ft_inO (G_Stairs____contains__ base) T.me_Stairs____contains__ (room.mono (by decide)) b_Stairs____contains__ (f_callN ((G_pair_of base).mono (by decide)) room (by rfl) T.gl_pair_of k_pair_of b_pair_of (fa_cons (f_var 2 (pv 2)) fa_nil)) (f_var 1 (pv 1))))) (fun _ _ _ _ _ => (eE_ok fun _ => (f_item (f_hvar 2 (pv 2)) (f_val f_int) (fun _ _ => rfl)))))) fa_nil) (by rfl) T.no_sum)))
theorem sc_surplus : FnScope N_surplus ["lots", "orders", "stairs"] (defScope s_surplus) := ⟨rfl, rfl, rfl, by decide +kernel, rfl, by decide +kernel, by decide +kernel⟩
abbrev Fd_surplus (K : PySem.W.Frag) (fd : FuncData) : Prop := FunD K "surplus" "surplus" (defArgs s_surplus) (defBody s_surplus) (defScope s_surplus) [] [] (He.ga K "surplus") fd
theorem bn_surplus {fd : FuncData} (F : Fd_surplus K fd) : Binds K fd ["lots", "orders", "stairs"] [] := F.bindsN fun _ _ _ _ _ _ us hl => match us, hl with | [_, _, _], _ => rfl
theorem ok_surplus (T : Tx K mg) : ∃ fd, (∀ base : Heap, FnOk P w K mg base CX0 6 (He.ga K "surplus") fd ["lots", "orders", "stairs"] (spF K F_surplus)) ∧ Fd_surplus K fd := by
  obtain ⟨fd_supply, G_supply, D_supply⟩ := ok_supply (P := P) (w := w) T
  have b_supply := bn_supply D_supply
  have k_supply := D_supply.kp
  obtain ⟨fd_demand, G_demand, D_demand⟩ := ok_demand (P := P) (w := w) T
  have b_demand := bn_demand D_demand
  have k_demand := D_demand.kp
  obtain ⟨fd, F⟩ := T.fn_surplus
  refine ⟨fd, fun base => def_okN F sc_surplus fun cdv A outer s H E c room => ?_, F⟩
  have nd := (sc_surplus).nd
  exact (fs_one (fs_ret (f_sub (f_callN ((G_supply base).mono (by decide)) room (by rfl) T.gl_supply k_supply b_supply (fa_cons (f_var 0 (pv 0)) (fa_cons (f_var 2 (pv 2)) fa_nil))) (f_callN ((G_demand base).mono (by decide)) room (by rfl) T.gl_demand k_demand b_demand (fa_cons (f_var 1 (pv 1)) (fa_cons (f_var 2 (pv 2)) fa_nil))))))
theorem sc_Stairs__corners : FnScope N_Stairs__corners ["self"] (defScope s_Stairs__corners) := ⟨rfl, rfl, rfl, by decide +kernel, rfl, by decide +kernel, by decide +kernel⟩
abbrev Fd_Stairs__corners (K : PySem.W.Frag) (fd : FuncData) : Prop := FunD K "corners" "Stairs.corners" (defArgs s_Stairs__corners) (defBody s_Stairs__corners) (defScope s_Stairs__corners) [] [] (pgA K "Stairs" "corners") fd
theorem bn_Stairs__corners {fd : FuncData} (F : Fd_Stairs__corners K fd) : Binds K fd ["self"] [] := F.bindsN fun _ _ _ _ _ _ us hl => match us, hl with | [_], _ => rfl
theorem ok_Stairs__corners (T : Tx K mg) : ∃ fd, (∀ base : Heap, FnOk P w K mg base CX0 1 (pgA K "Stairs" "corners") fd ["self"] (spO K F_Stairs__corners)) ∧ Fd_Stairs__corners K fd := by
  obtain ⟨fd, F⟩ := T.fn_Stairs__corners
  refine ⟨fd, fun base => def_okNO F sc_Stairs__corners fun cdv A outer s H E c room => ?_, F⟩
  have nd := (sc_Stairs__corners).nd
  exact (fs_one (fs_retO (fo_compL rfl nd (own := [("day", 1), ("keeps", 2)]) (blkOk_by (N := N_Stairs__corners) (sc := defScope s_Stairs__corners) (by decide +kernel)) (f_fld (f_hvar 0 (pv 0)) T.cl_Stairs T.na_Stairs__corners) (fun _ _ _ _ _ => (tg_tupK K [1, 2] rfl rfl (pgs_cons (pg_name nd rfl (Or.inl rfl)) (pgs_cons (pg_name nd rfl (Or.inl rfl)) pgs_nil)) rfl (by decide))) (fun _ _ _ _ _ => eT_nil) (fun _ _ _ _ _ => (eE_ok fun _ => (f_tup (fa_cons (f_var 1 (pv 1)) (fa_cons (f_var 2 (pv 2)) fa_nil))))))))
theorem sc__law_corners : FnScope N__law_corners ["pairs"] (defScope s__law_corners) := ⟨rfl, rfl, rfl, by decide +kernel, rfl, by decide +kernel, by decide +kernel⟩
abbrev Fd__law_corners (K : PySem.W.Frag) (fd : FuncData) : Prop := FunD K "_law_corners" "_law_corners" (defArgs s__law_corners) (defBody s__law_corners) (defScope s__law_corners) [] [] (He.ga K "_law_corners") fd
theorem bn__law_corners {fd : FuncData} (F : Fd__law_corners K fd) : Binds K fd ["pairs"] [] := F.bindsN fun _ _ _ _ _ _ us hl => match us, hl with | [_], _ => rfl
theorem ok__law_corners (T : Tx K mg) : ∃ fd, (∀ base : Heap, FnG P w K mg base CX0 2 (He.ga K "_law_corners") fd ["pairs"] (spF K F__law_corners)) ∧ Fd__law_corners K fd := by
  obtain ⟨fd__law_has, G__law_has, D__law_has⟩ := ok__law_has (P := P) (w := w) T
  have b__law_has := bn__law_has D__law_has
  have k__law_has := D__law_has.kp
  obtain ⟨fd, F⟩ := T.fn__law_corners
  refine ⟨fd, fun base => def_ok F sc__law_corners fun cdv A outer s H E c gu room => ?_, F⟩
  have nd := (sc__law_corners).nd
  exact (fs_cons (fs_own (fo_lst fa_nil) nd rfl (Or.inl rfl))
    (fs_cons (fs_forL PassesOwn.never rfl (f_var 0 (pv 0)) (fg_name (pg_name nd rfl (Or.inr rfl))) (fs_cons (fs_ownCompL (i := 3) (own := [("one", 5)]) rfl nd rfl rfl (sw_true rfl rfl rfl (by decide +kernel)) (blkOk_by (N := N__law_corners) (sc := defScope s__law_corners) (by decide +kernel)) (f_var 0 (pv 0)) (fun _ _ _ _ _ => (tg_name (pg_name nd rfl (Or.inl rfl)) (by decide))) (fun _ _ _ _ _ => (eT_one fun _ => (PW.pt (fw_and (ft_ne room (f_hvar 5 (pv 5)) (f_hvar 2 (pv 2))) (fw_and1 (ft_b (f_call ((G__law_has base).mono (by decide)) gu room (by rfl) T.gl__law_has k__law_has b__law_has (fa_cons (f_lst (fa_cons (f_var 5 (pv 5)) fa_nil)) (fa_cons (f_var 2 (pv 2)) fa_nil))))))))) (fun _ _ _ _ _ => (eE_ok fun _ => (f_var 5 (pv 5)))))
    (fs_one (fs_if (PW.pt (fw_and (ft_notInL room (f_hvar 2 (pv 2)) (f_hvar 1 (pv 1))) (fw_and1 (ft_eq room (f_hvar 3 (pv 3)) (f_val (f_lst fa_nil)))))) (fs_cons (fs_asg (f_len (f_val (fo_sh (fo_compH rfl nd (own := [("one", 5)]) (blkOk_by (N := N__law_corners) (sc := defScope s__law_corners) (by decide +kernel)) (pv 1) (fun _ _ _ _ _ => (tg_name (pg_name nd rfl (Or.inl rfl)) (by decide))) (fun _ _ _ _ _ => (eT_one fun _ => (ft_lt (f_val (f_item (f_hvar 5 (pv 5)) (f_val f_int) (fun _ _ => rfl))) (f_val (f_item (f_hvar 2 (pv 2)) (f_val f_int) (fun _ _ => rfl)))))) (fun _ _ _ _ _ => (eE_ok fun _ => (f_var 5 (pv 5))))))) (by rfl) T.no_len) (fg_name (pg_name nd rfl (Or.inl rfl))))
    (fs_one (fs_insert (pv 1) (f_var 4 (pv 4)) (f_var 2 (pv 2))))) fs_nil))))
    (fs_one (fs_ret (f_var 1 (pv 1))))))
theorem sc_law : FnScope N_law ["script"] (defScope s_law) := ⟨rfl, rfl, rfl, by decide +kernel, rfl, by decide +kernel, by decide +kernel⟩
abbrev Fd_law (K : PySem.W.Frag) (fd : FuncData) : Prop := FunD K "law" "law" (defArgs s_law) (defBody s_law) (defScope s_law) [] [] (He.ga K "law") fd
theorem bn_law {fd : FuncData} (F : Fd_law K fd) : Binds K fd ["script"] [] := F.bindsN fun _ _ _ _ _ _ us hl => match us, hl with | [_], _ => rfl
theorem ok_law (T : Tx K mg) : ∃ fd, (∀ base : Heap, FnG P w K mg base CX0 7 (He.ga K "law") fd ["script"] (spF K F_law)) ∧ Fd_law K fd := by
  obtain ⟨fd__law_tape, G__law_tape, D__law_tape⟩ := ok__law_tape (P := P) (w := w) T
  have b__law_tape := bn__law_tape D__law_tape
  have k__law_tape := D__law_tape.kp
  obtain ⟨fd__law_goods, G__law_goods, D__law_goods⟩ := ok__law_goods (P := P) (w := w) T
  have b__law_goods := bn__law_goods D__law_goods
  have k__law_goods := D__law_goods.kp
  obtain ⟨fd__law_pick, G__law_pick, D__law_pick⟩ := ok__law_pick (P := P) (w := w) T
  have b__law_pick := bn__law_pick D__law_pick
  have k__law_pick := D__law_pick.kp
  obtain ⟨fd__law_pairs, G__law_pairs, D__law_pairs⟩ := ok__law_pairs (P := P) (w := w) T
  have b__law_pairs := bn__law_pairs D__law_pairs
  have k__law_pairs := D__law_pairs.kp
  obtain ⟨fd__law_made, G__law_made, D__law_made⟩ := ok__law_made (P := P) (w := w) T
  have b__law_made := bn__law_made D__law_made
  have k__law_made := D__law_made.kp
  obtain ⟨fd_Stairs__read, G_Stairs__read, D_Stairs__read⟩ := ok_Stairs__read (P := P) (w := w) T
  have b_Stairs__read := bn_Stairs__read D_Stairs__read
  have k_Stairs__read := D_Stairs__read.kp
  obtain ⟨fd_Stairs__text, G_Stairs__text, D_Stairs__text⟩ := ok_Stairs__text (P := P) (w := w) T
  have b_Stairs__text := bn_Stairs__text D_Stairs__text
  have k_Stairs__text := D_Stairs__text.kp
  obtain ⟨fd__law_within, G__law_within, D__law_within⟩ := ok__law_within (P := P) (w := w) T
  have b__law_within := bn__law_within D__law_within
  have k__law_within := D__law_within.kp
  obtain ⟨fd_supply, G_supply, D_supply⟩ := ok_supply (P := P) (w := w) T
  have b_supply := bn_supply D_supply
  have k_supply := D_supply.kp
  obtain ⟨fd_demand, G_demand, D_demand⟩ := ok_demand (P := P) (w := w) T
  have b_demand := bn_demand D_demand
  have k_demand := D_demand.kp
  obtain ⟨fd_surplus, G_surplus, D_surplus⟩ := ok_surplus (P := P) (w := w) T
  have b_surplus := bn_surplus D_surplus
  have k_surplus := D_surplus.kp
  obtain ⟨fd_Stairs__corners, G_Stairs__corners, D_Stairs__corners⟩ := ok_Stairs__corners (P := P) (w := w) T
  have b_Stairs__corners := bn_Stairs__corners D_Stairs__corners
  have k_Stairs__corners := D_Stairs__corners.kp
  obtain ⟨fd__law_corners, G__law_corners, D__law_corners⟩ := ok__law_corners (P := P) (w := w) T
  have b__law_corners := bn__law_corners D__law_corners
  have k__law_corners := D__law_corners.kp
  obtain ⟨fd_Stairs____init__, R_Stairs____init__, D_Stairs____init__⟩ := ok_Stairs____init__ (P := P) (w := w) T
  obtain ⟨fd, F⟩ := T.fn_law
  refine ⟨fd, fun base => def_ok F sc_law fun cdv A outer s H E c gu room => ?_, F⟩
  have nd := (sc_law).nd
  exact (fs_cons (fs_forR PassesOwn.never rfl (fa_cons (f_max2 rfl (fa_cons f_int (fa_cons (f_min2 rfl (fa_cons f_int (fa_cons (f_len (f_hvar 0 (pv 0)) (by rfl) T.no_len) fa_nil)) (by rfl) T.no_min) fa_nil)) (by rfl) T.no_max) fa_nil) (fg_name (pg_name nd rfl (Or.inl rfl))) (fs_cons (fs_own (fo_call ((G__law_tape base).mono (by decide)) gu room (by rfl) T.gl__law_tape k__law_tape b__law_tape (fa_cons (f_var 0 (pv 0)) (fa_cons (f_var 1 (pv 1)) fa_nil))) nd rfl (Or.inl rfl))
    (fs_cons (fs_par (i := 3) (j := 4) rfl nd rfl rfl (by decide) rfl rfl (fa_cons (f_callO ((G__law_goods base).mono (by decide)) gu room (by rfl) T.gl__law_goods k__law_goods b__law_goods (pv 2) (fa_cons (f_callO ((G__law_pick base).mono (by decide)) gu room (by rfl) T.gl__law_pick k__law_pick b__law_pick (pv 2) (fa_cons f_int fa_nil)) fa_nil)) (fa_cons (f_callO ((G__law_goods base).mono (by decide)) gu room (by rfl) T.gl__law_goods k__law_goods b__law_goods (pv 2) (fa_cons (f_callO ((G__law_pick base).mono (by decide)) gu room (by rfl) T.gl__law_pick k__law_pick b__law_pick (pv 2) (fa_cons f_int fa_nil)) fa_nil)) fa_nil)) (by rfl))
    (fs_cons (fs_if (ft_eq room (f_val (f_callO ((G__law_pick base).mono (by decide)) gu room (by rfl) T.gl__law_pick k__law_pick b__law_pick (pv 2) (fa_cons f_int fa_nil))) (f_val f_int)) (fs_one (fs_par (i := 3) (j := 4) rfl nd rfl rfl (by decide) rfl rfl (fa_cons (f_addA (f_hvar 3 (pv 3)) (f_val (f_slice (f_hvar 3 (pv 3)) fp_none (fp_some f_int)))) (fa_cons (f_addA (f_val (f_slice (f_hvar 4 (pv 4)) (fp_some (f_neg f_int)) fp_none)) (f_hvar 4 (pv 4))) fa_nil)) (by rfl))) fs_nil)
    (fs_cons (fs_asg (f_repr gu room (f_val (f_tup (fa_cons (f_var 3 (pv 3)) (fa_cons (f_var 4 (pv 4)) fa_nil)))) (by rfl) T.no_repr) (fg_name (pg_name nd rfl (Or.inl rfl))))
    (fs_cons (fs_forR PassesOwn.never rfl (fa_cons f_int fa_nil) (fg_name (pg_name nd rfl (Or.inl rfl))) (fs_cons (fs_asg (f_callO ((G__law_pairs base).mono (by decide)) gu room (by rfl) T.gl__law_pairs k__law_pairs b__law_pairs (pv 2) (fa_cons f_int fa_nil)) (fg_name (pg_name nd rfl (Or.inl rfl))))
    (fs_cons (fs_asg (f_call ((G__law_made base).mono (by decide)) gu room (by rfl) T.gl__law_made k__law_made b__law_made (fa_cons (f_var 7 (pv 7)) fa_nil)) (fg_name (pg_name nd rfl (Or.inl rfl))))
    (fs_cons (fs_if (ft_eq room (f_val (f_callO ((G__law_pick base).mono (by decide)) gu room (by rfl) T.gl__law_pick k__law_pick b__law_pick (pv 2) (fa_cons f_int fa_nil))) (f_val f_int)) (fs_one (fs_asg (f_cmeth T.cm_Stairs__read (G_Stairs__read base) (room.mono (by decide)) b_Stairs__read (by rfl) T.gl_Stairs (fa_cons (f_prop (f_var 8 (pv 8)) T.cl_Stairs T.pr_Stairs__text (G_Stairs__text base) (room.mono (by decide)) b_Stairs__text) fa_nil)) (fg_name (pg_name nd rfl (Or.inl rfl))))) fs_nil)
    (fs_cons (fs_asg (f_lst (fa_cons (f_call ((G__law_within base).mono (by decide)) gu room (by rfl) T.gl__law_within k__law_within b__law_within (fa_cons (f_var 3 (pv 3)) (fa_cons (f_var 7 (pv 7)) fa_nil))) (fa_cons (f_call ((G__law_within base).mono (by decide)) gu room (by rfl) T.gl__law_within k__law_within b__law_within (fa_cons (f_var 4 (pv 4)) (fa_cons (f_var 7 (pv 7)) fa_nil))) fa_nil))) (fg_name (pg_name nd rfl (Or.inl rfl))))
    (fs_cons (fs_if (ft_ne room (f_val (f_repr gu room (f_val (f_lst (fa_cons (f_call (toG ((G_supply base).mono (by decide))) gu room (by rfl) T.gl_supply k_supply b_supply (fa_cons (f_var 3 (pv 3)) (fa_cons (f_var 8 (pv 8)) fa_nil))) (fa_cons (f_call (toG ((G_demand base).mono (by decide))) gu room (by rfl) T.gl_demand k_demand b_demand (fa_cons (f_var 4 (pv 4)) (fa_cons (f_var 8 (pv 8)) fa_nil))) fa_nil)))) (by rfl) T.no_repr)) (f_val (f_repr gu room (f_hvar 9 (pv 9)) (by rfl) T.no_repr))) (fs_one (fs_ret f_bl)) fs_nil)
    (fs_one (fs_if (PW.pt (fw_or (ft_ne room (f_val (f_repr gu room (f_val (f_call (toG ((G_surplus base).mono (by decide))) gu room (by rfl) T.gl_surplus k_surplus b_surplus (fa_cons (f_var 3 (pv 3)) (fa_cons (f_var 4 (pv 4)) (fa_cons (f_var 8 (pv 8)) fa_nil))))) (by rfl) T.no_repr)) (f_val (f_repr gu room (f_val (f_sub (f_item (f_hvar 9 (pv 9)) (f_val f_int) (fun _ _ => rfl)) (f_item (f_hvar 9 (pv 9)) (f_val f_int) (fun _ _ => rfl)))) (by rfl) T.no_repr))) (fw_or1 (ft_ne room (f_val (fo_sh (fo_prop (f_var 8 (pv 8)) T.cl_Stairs T.pr_Stairs__corners (G_Stairs__corners base) (room.mono (by decide)) b_Stairs__corners))) (f_val (f_call ((G__law_corners base).mono (by decide)) gu room (by rfl) T.gl__law_corners k__law_corners b__law_corners (fa_cons (f_var 7 (pv 7)) fa_nil))))))) (fs_one (fs_ret f_bl)) fs_nil))))))) (by rfl) T.no_range)
    (fs_one (fs_if (ft_ne room (f_val (f_repr gu room (f_val (f_tup (fa_cons (f_var 3 (pv 3)) (fa_cons (f_var 4 (pv 4)) fa_nil)))) (by rfl) T.no_repr)) (f_hvar 5 (pv 5))) (fs_one (fs_ret f_bl)) fs_nil))))))) (by rfl) T.no_range)
    (fs_one (fs_ret (f_and (f_eq room (f_val (f_call (toG ((G_supply base).mono (by decide))) gu room (by rfl) T.gl_supply k_supply b_supply (fa_cons (f_lst fa_nil) (fa_cons (fo_sh (fo_makeS0 T.mk_Stairs (R_Stairs____init__ base) (room.mono (by decide)) (by rfl) T.gl_Stairs)) fa_nil)))) (f_val f_int)) (f_one (f_eq room (f_val (f_call (toG ((G_surplus base).mono (by decide))) gu room (by rfl) T.gl_surplus k_surplus b_surplus (fa_cons (f_lst fa_nil) (fa_cons (f_lst fa_nil) (fa_cons (fo_sh (fo_makeS T.mk_Stairs (R_Stairs____init__ base) (room.mono (by decide)) (by rfl) T.gl_Stairs (fa_cons (f_tup (fa_cons f_int (fa_cons f_int fa_nil))) fa_nil))) fa_nil))))) (f_val f_int)))))))
end
end K13

set_option Elab.async false
set_option linter.all false
set_option maxRecDepth 100000
set_option maxHeartbeats 4000000
namespace K13
open PySem PySem.Spec PyProof.Rows L2 FL PL
def dOf (p : Str × Option Str) (x y : Str) (s : Stmt) : He.DefD := ⟨p, x, y, defArgs s, defBody s, defScope s, [], []⟩
def fnL : List He.DefD := [dOf ("_law_tape", none) "_law_tape" "_law_tape" s__law_tape, dOf ("_law_pick", none) "_law_pick" "_law_pick" s__law_pick, dOf ("_law_one_of", none) "_law_one_of" "_law_one_of" s__law_one_of, dOf ("_law_goods", none) "_law_goods" "_law_goods" s__law_goods, dOf ("_law_pair", none) "_law_pair" "_law_pair" s__law_pair, dOf ("_law_pairs", none) "_law_pairs" "_law_pairs" s__law_pairs, dOf ("is_whole", none) "is_whole" "is_whole" s_is_whole, dOf ("is_day", none) "is_day" "is_day" s_is_day, dOf ("is_pair", none) "is_pair" "is_pair" s_is_pair, dOf ("_corners_among", none) "_corners_among" "_corners_among" s__corners_among, dOf ("Stairs", some "__init__") "__init__" "Stairs.__init__" s_Stairs____init__, dOf ("_law_made", none) "_law_made" "_law_made" s__law_made, dOf ("read_number", none) "read_number" "read_number" s_read_number, dOf ("_pairs_told", none) "_pairs_told" "_pairs_told" s__pairs_told, dOf ("_law_has", none) "_law_has" "_law_has" s__law_has, dOf ("_law_within", none) "_law_within" "_law_within" s__law_within, dOf ("Stairs", some "__contains__") "__contains__" "Stairs.__contains__" s_Stairs____contains__, dOf ("pair_of", none) "pair_of" "pair_of" s_pair_of, dOf ("supply", none) "supply" "supply" s_supply, dOf ("demand", none) "demand" "demand" s_demand, dOf ("surplus", none) "surplus" "surplus" s_surplus, dOf ("_law_corners", none) "_law_corners" "_law_corners" s__law_corners, dOf ("law", none) "law" "law" s_law]
def gsL : List Gt := [⟨"Stairs", "text", dOf ("Stairs", some "text") "text" "Stairs.text" s_Stairs__text⟩, ⟨"Stairs", "corners", dOf ("Stairs", some "corners") "corners" "Stairs.corners" s_Stairs__corners⟩]
def csL : List Gt := [⟨"Stairs", "read", dOf ("Stairs", some "read") "read" "Stairs.read" s_Stairs__read⟩]
def xsB (K : PySem.W.Frag) : Bool := true
def faL : List He.Fa := [.free "bool", .free "int", .free "isinstance", .free "len", .free "max", .free "min", .free "range", .free "repr", .free "sorted", .free "str", .free "sum", .free "tuple", .int "LAST_DAY" 1000000, .int "MOST_DIGITS" 60, .glo "_law_tape", .glo "_law_pick", .glo "_law_one_of", .glo "_law_goods", .glo "_law_pair", .glo "_law_pairs", .glo "is_whole", .glo "is_day", .glo "is_pair", .glo "_corners_among", .glo "_law_made", .glo "read_number", .glo "_pairs_told", .glo "_law_has", .glo "_law_within", .glo "pair_of", .glo "supply", .glo "demand", .glo "surplus", .glo "_law_corners", .glo "law", .glo "Stairs", .cls "Stairs", .mkr "Stairs", .noat "Stairs" "_corners", .meth "Stairs" "__contains__"]
def lo1 : List Str := ["_wall", "FreshError", "BadStairs", "BadText", "LAST_DAY", "MOST_DIGITS", "is_whole", "is_day", "is_pair", "pair_of", "read_number", "Stairs", "_corners_among", "_shared_pairs"]
def lo2 : List Str := ["_pairs_told", "supply", "demand", "surplus", "_law_tape", "_law_pick", "_law_one_of", "_law_pair", "_law_pairs", "_law_made", "_law_has", "_law_corners", "_law_goods", "_law_within", "_law_left"]
abbrev Rr : PySem.W.OpenRow := PySem.W.OpenLaw.row PySem.Challenge.rw_freshpromise_k13_supply_and_demand
abbrev hk : PySem.W.Hook := hookY 6 faL fnL gsL xsB csL
def ob (s : PySem.W.SharedT) : AlY := obsY 6 faL fnL gsL xsB csL (HandSHeadRun.getT s)
theorem ob_eq (s : PySem.W.SharedT) : ob s = hk.obs s.abs := obsY_eq (HandSHeadRun.getT_eq s)
theorem run (w : World) : HandSHeadRun.RunEq Rr (PySem.W.view Rr.prog [34]) hk ob 9000 (lo1 ++ lo2) w := by
  intro os; kernel_rfl
theorem tx {K : PySem.W.Frag} {h : Heap} {mg : Str → Option Value} (cx : SaysY faL fnL gsL xsB csL K) (X : K.In h) (G : h.Ns mainGlobals mg) : Tx K mg := by
  have c := cx.d
  exact {
    fn__law_tape := c.def_ 0 rfl
    fn__law_pick := c.def_ 1 rfl
    fn__law_one_of := c.def_ 2 rfl
    fn__law_goods := c.def_ 3 rfl
    fn__law_pair := c.def_ 4 rfl
    fn__law_pairs := c.def_ 5 rfl
    fn_is_whole := c.def_ 6 rfl
    fn_is_day := c.def_ 7 rfl
    fn_is_pair := c.def_ 8 rfl
    fn__corners_among := c.def_ 9 rfl
    fn_Stairs____init__ := c.def_ 10 rfl
    fn__law_made := c.def_ 11 rfl
    fn_read_number := c.def_ 12 rfl
    fn__pairs_told := c.def_ 13 rfl
    fn__law_has := c.def_ 14 rfl
    fn__law_within := c.def_ 15 rfl
    fn_Stairs____contains__ := c.def_ 16 rfl
    fn_pair_of := c.def_ 17 rfl
    fn_supply := c.def_ 18 rfl
    fn_demand := c.def_ 19 rfl
    fn_surplus := c.def_ 20 rfl
    fn__law_corners := c.def_ 21 rfl
    fn_law := c.def_ 22 rfl
    fn_Stairs__text := (cx.prop 0 rfl).2
    pr_Stairs__text := (cx.prop 0 rfl).1
    fn_Stairs__corners := (cx.prop 1 rfl).2
    pr_Stairs__corners := (cx.prop 1 rfl).1
    fn_Stairs__read := (cx.cmeth 0 rfl).2
    cm_Stairs__read := (cx.cmeth 0 rfl).1
    no_bool := He.free_ok X G (c.fact 0 rfl)
    no_int := He.free_ok X G (c.fact 1 rfl)
    no_isinstance := He.free_ok X G (c.fact 2 rfl)
    no_len := He.free_ok X G (c.fact 3 rfl)
    no_max := He.free_ok X G (c.fact 4 rfl)
    no_min := He.free_ok X G (c.fact 5 rfl)
    no_range := He.free_ok X G (c.fact 6 rfl)
    no_repr := He.free_ok X G (c.fact 7 rfl)
    no_sorted := He.free_ok X G (c.fact 8 rfl)
    no_str := He.free_ok X G (c.fact 9 rfl)
    no_sum := He.free_ok X G (c.fact 10 rfl)
    no_tuple := He.free_ok X G (c.fact 11 rfl)
    in_LAST_DAY := He.int_ok X G (c.fact 12 rfl)
    in_MOST_DIGITS := He.int_ok X G (c.fact 13 rfl)
    gl__law_tape := He.glo_ok X G (c.fact 14 rfl)
    gl__law_pick := He.glo_ok X G (c.fact 15 rfl)
    gl__law_one_of := He.glo_ok X G (c.fact 16 rfl)
    gl__law_goods := He.glo_ok X G (c.fact 17 rfl)
    gl__law_pair := He.glo_ok X G (c.fact 18 rfl)
    gl__law_pairs := He.glo_ok X G (c.fact 19 rfl)
    gl_is_whole := He.glo_ok X G (c.fact 20 rfl)
    gl_is_day := He.glo_ok X G (c.fact 21 rfl)
    gl_is_pair := He.glo_ok X G (c.fact 22 rfl)
    gl__corners_among := He.glo_ok X G (c.fact 23 rfl)
    gl__law_made := He.glo_ok X G (c.fact 24 rfl)
    gl_read_number := He.glo_ok X G (c.fact 25 rfl)
    gl__pairs_told := He.glo_ok X G (c.fact 26 rfl)
    gl__law_has := He.glo_ok X G (c.fact 27 rfl)
    gl__law_within := He.glo_ok X G (c.fact 28 rfl)
    gl_pair_of := He.glo_ok X G (c.fact 29 rfl)
    gl_supply := He.glo_ok X G (c.fact 30 rfl)
    gl_demand := He.glo_ok X G (c.fact 31 rfl)
    gl_surplus := He.glo_ok X G (c.fact 32 rfl)
    gl__law_corners := He.glo_ok X G (c.fact 33 rfl)
    gl_law := He.glo_ok X G (c.fact 34 rfl)
    gl_Stairs := He.glo_ok X G (c.fact 35 rfl)
    cl_Stairs := He.cls_ok (c.fact 36 rfl)
    mk_Stairs := He.mkr_ok (c.fact 37 rfl)
    na_Stairs__corners := He.noat_ok (c.fact 38 rfl)
    me_Stairs____contains__ := He.meth_ok (c.fact 39 rfl)
  }
end K13
open PySem PySem.W PySem.Calls PyProof.Rows
set_option maxHeartbeats 0 in
theorem PySem.Challenge.cw_freshpromise_k13_supply_and_demand_holds : PySem.Challenge.rw_freshpromise_k13_supply_and_demand.Holds := by
  w_on; o_law
  refine HandSHeadRun.head_any (r := OpenLaw.row PySem.Challenge.rw_freshpromise_k13_supply_and_demand) (q := view (OpenLaw.row PySem.Challenge.rw_freshpromise_k13_supply_and_demand).prog [34]) (H := K13.hk) (ob := K13.ob) (M := 9000) (loose := K13.lo1 ++ K13.lo2)
    (d := HandSHeadRun.topDef (OpenLaw.row PySem.Challenge.rw_freshpromise_k13_supply_and_demand).prog 34) (kwd := []) K13.ob_eq (by kernel_rfl) (fun s => by kernel_rfl) K13.run (by kernel_rfl) (by kernel_rfl) (by kernel_rfl) (by rfl) (by first | assumption | decide +kernel) (by decide +kernel) ⟨rfl, rfl, rfl, rfl, rfl, by decide +kernel⟩ ?hw ?hc
  case hw => w_witness2
  case hc =>
    refine FL.walkG (l := PySem.Challenge.rw_freshpromise_k13_supply_and_demand) (n := 63) (k := 7) (x := "script") rfl (by decide) (by kernel_rfl) ⟨rfl, by decide, by decide⟩ (fun w h Y => Y.2) ?F
    intro w mg fa h Y G hmg0
    obtain ⟨⟨K, KX, c⟩, _⟩ := Y
    have hmg : mg ("law" : PySem.Str) = some (.ref fa) := by
      have e : (HandSHeadRun.topDef (OpenLaw.row PySem.Challenge.rw_freshpromise_k13_supply_and_demand).prog 34).name = ("law" : PySem.Str) := by kernel_rfl
      rw [← e]
      exact hmg0
    have T := K13.tx c KX G
    obtain ⟨fd, F, Dl⟩ := K13.ok_law (P := (PySem.Challenge.rw_freshpromise_k13_supply_and_demand).prog) (w := w) T
    have ea := hmg.symm.trans T.gl_law
    cases ea
    have b := L2.FunD.bindsA (ps := ["script"]) Dl fun _ _ _ _ _ _ us hl => match us, hl with | [_], _ => rfl
    refine ⟨K, fd, FL.spF K K13.F_law, KX, fun s v => b s [v] rfl, fun H a ns hl hb hS => ?_, fun base _ _ => F base⟩
    obtain ⟨e', qq⟩ := K13.law_true ns hb hl
    exact ⟨fun _ => none, H, [.sh (.scr ns)], .bl true, e', FL.ER.args (ds := [.scr ns]) (vs := [.ref a]) (L2.Same.refl _) (.cons (.scr hS) .nil), qq, fun S' H' v E s r => by cases r; rfl⟩

