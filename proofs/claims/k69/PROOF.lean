import PyProof.Rows.All
import Wide.All
import OpenK.AllK
import Wide.FinOn
import HandS.ForMost
import HandS.Walk
import HandS.IsInst
import HandS.Style
import HandS.Defaults
import HandS.NoneIn
import PySem.Challenge.RW_reticle_k69_written_circuits
import HandS.SetKeys
import HandS.SortRule
import HandS.SortInts
import HandS.More
import KE.KDictCopyH
import KE.KDictSum
import HandS.SetFor
import HandS.Flow
import HandS.SortKw
import HandS.ExcValue
import HandS.Deep
import KE.SortKeyHeap
import HandS.Strs
import KE.KDictList
import PyProof.Rows.TupTab
import HandS.TupLen
import HandS.Codes
import KE.SortData
import KE.KDictPairs
import HandS.TupAny
import HandS.DictComp
import PyProof.AutoSeq1
import HandS.Conv
import HandS.SlotsOwn
import HandS.WordsExc
import HandS.ExcIs
import HandS.Small
import HandS.FStr
import HandS.DictTup
import KE.DatumOrd
import HandS.Text
import HandS.Property
import PyProof.Rows.Range3
import KE.GoesEnumKw
import KE.GoesEnum
import HandS.Star
import PyProof.EnumMake
import PyProof.Draws
import KE.GoesMore
set_option Elab.async false
set_option linter.all false
set_option maxRecDepth 100000
set_option maxHeartbeats 4000000
/-! Data: what values are, without addresses. -/
namespace DL
open PySem PySem.Spec L2

inductive D where
  | non | bl (b : Bool) | int (i : Int) | str (x : Str) | ty (n : String)
  | lst (xs : List D) | tup (xs : List D)
  | dk (ks : List Key) (ds : List D) | dt (ks : List (List Key)) (ds : List D)
  | obj (cn : Str) (ns : List Str) (ds : List D)
  /-- what stands at a place -/
  | ad (a : Addr)
  /-- a tuple that is known to have no dict -/
  | ptp (xs : List D)

mutual
def DR (K : PySem.W.Frag) (H : Hp) : D → V → Prop
  | .non, v => v = .non
  | .bl b, v => v = .bl b
  | .int i, v => v = .int i
  | .str x, v => v = .str x
  | .ty n, v => v = .ty n
  | .lst ds, v => ∃ a vs, v = .ref a ∧ SqL K H a vs ∧ DRs K H ds vs
  | .tup ds, v => ∃ a vs, v = .ref a ∧ SqT K H a vs ∧ DRs K H ds vs
  | .dk ks ds, v => ∃ a vs, v = .ref a ∧ Rd H a (.dK (ks.zip vs)) ∧ ks.length = vs.length ∧ DRs K H ds vs
  | .dt ks ds, v => ∃ a vs, v = .ref a ∧ Rd H a (.dT (ks.zip vs)) ∧ ks.length = vs.length ∧ DRs K H ds vs
  | .obj cn ns ds, v => ∃ a C dx vs, v = .ref a ∧ PySem.W.nsIn K mainGlobals cn = some (some (.ref C)) ∧ H a = some (.ins C dx (ns.zip vs)) ∧ ns.length = vs.length ∧ DRs K H ds vs
  | .ad a, v => v = .ref a
  | .ptp ds, v => ∃ a o vs, v = .ref a ∧ H a = some (.frz o (.tup vs)) ∧ o.dict = none ∧ DRs K H ds vs
def DRs (K : PySem.W.Frag) (H : Hp) : List D → List V → Prop
  | [], vs => vs = []
  | d :: ds, vs => ∃ v r, vs = v :: r ∧ DR K H d v ∧ DRs K H ds r
end

theorem Same.seqT {K : PySem.W.Frag} {H H' : Hp} {a : Addr} {xs : List V} (e : Same H H') (h : SqT K H a xs) : SqT K H' a xs := by
  rcases h with (h | ⟨o, h⟩) | h
  · exact .inl (.inl (e _ _ h))
  · exact .inl (.inr ⟨o, e _ _ h⟩)
  · exact .inr h

theorem Same.rd {H H' : Hp} {a : Addr} {u : HO} (e : Same H H') (h : Rd H a u) : Rd H' a u := by
  rcases h with h | ⟨o, h⟩
  · exact .inl (e _ _ h)
  · exact .inr ⟨o, e _ _ h⟩

mutual
theorem DR.mono {K : PySem.W.Frag} {H H' : Hp} (e : Same H H') : ∀ (d : D) (v : V), DR K H d v → DR K H' d v
  | .non, v, h => h
  | .bl _, v, h => h
  | .int _, v, h => h
  | .str _, v, h => h
  | .ty _, v, h => h
  | .lst ds, v, h => by
    obtain ⟨a, vs, h1, h2, h3⟩ := h
    exact ⟨a, vs, h1, e.seq h2, DRs.mono e ds vs h3⟩
  | .tup ds, v, h => by
    obtain ⟨a, vs, h1, h2, h3⟩ := h
    exact ⟨a, vs, h1, Same.seqT e h2, DRs.mono e ds vs h3⟩
  | .dk ks ds, v, h => by
    obtain ⟨a, vs, h1, h2, h4, h3⟩ := h
    exact ⟨a, vs, h1, Same.rd e h2, h4, DRs.mono e ds vs h3⟩
  | .dt ks ds, v, h => by
    obtain ⟨a, vs, h1, h2, h4, h3⟩ := h
    exact ⟨a, vs, h1, Same.rd e h2, h4, DRs.mono e ds vs h3⟩
  | .obj cn ns ds, v, h => by
    obtain ⟨a, C, dx, vs, h1, hn, h2, h4, h3⟩ := h
    exact ⟨a, C, dx, vs, h1, hn, e _ _ h2, h4, DRs.mono e ds vs h3⟩
  | .ad _, v, h => h
  | .ptp ds, v, h => by
    obtain ⟨a, o, vs, h1, h2, h4, h3⟩ := h
    exact ⟨a, o, vs, h1, e _ _ h2, h4, DRs.mono e ds vs h3⟩
theorem DRs.mono {K : PySem.W.Frag} {H H' : Hp} (e : Same H H') : ∀ (ds : List D) (vs : List V), DRs K H ds vs → DRs K H' ds vs
  | [], vs, h => h
  | d :: ds, vs, h => by
    obtain ⟨v, r, h1, h2, h3⟩ := h
    exact ⟨v, r, h1, DR.mono e d v h2, DRs.mono e ds r h3⟩
end

theorem DRs.length {K : PySem.W.Frag} {H : Hp} : ∀ {ds : List D} {vs : List V}, DRs K H ds vs → ds.length = vs.length
  | [], vs, h => by cases (show vs = [] from h); rfl
  | d :: ds, vs, h => by
    obtain ⟨v, r, rfl, _, h3⟩ := h
    simp [DRs.length h3]
theorem DRs.get {K : PySem.W.Frag} {H : Hp} : ∀ {ds : List D} {vs : List V} {i : Nat} {d : D}, DRs K H ds vs → ds[i]? = some d → ∃ v, vs[i]? = some v ∧ DR K H d v
  | [], vs, i, d, h, e => by simp at e
  | d' :: ds, vs, 0, d, h, e => by
    obtain ⟨v, r, rfl, h2, h3⟩ := h
    simp at e
    subst e
    exact ⟨v, by simp, h2⟩
  | d' :: ds, vs, i + 1, d, h, e => by
    obtain ⟨v, r, rfl, h2, h3⟩ := h
    obtain ⟨w, h4, h5⟩ := DRs.get (i := i) (d := d) h3 (by simpa using e)
    exact ⟨w, by simpa using h4, h5⟩
theorem DRs.get' {K : PySem.W.Frag} {H : Hp} : ∀ {ds : List D} {vs : List V} {i : Nat} {v : V}, DRs K H ds vs → vs[i]? = some v → ∃ d, ds[i]? = some d ∧ DR K H d v
  | [], vs, i, v, h, e => by cases (show vs = [] from h); simp at e
  | d' :: ds, vs, 0, v, h, e => by
    obtain ⟨v', r, rfl, h2, h3⟩ := h
    simp at e
    subst e
    exact ⟨d', by simp, h2⟩
  | d' :: ds, vs, i + 1, v, h, e => by
    obtain ⟨v', r, rfl, h2, h3⟩ := h
    obtain ⟨w, h4, h5⟩ := DRs.get' (i := i) (v := v) h3 (by simpa using e)
    exact ⟨w, by simpa using h4, h5⟩
theorem DRs.app {K : PySem.W.Frag} {H : Hp} : ∀ {ds es : List D} {vs ws : List V}, DRs K H ds vs → DRs K H es ws → DRs K H (ds ++ es) (vs ++ ws)
  | [], es, vs, ws, h, g => by cases (show vs = [] from h); exact g
  | d :: ds, es, vs, ws, h, g => by
    obtain ⟨v, r, rfl, h2, h3⟩ := h
    exact ⟨v, r ++ ws, rfl, h2, DRs.app h3 g⟩
theorem DRs.one {K : PySem.W.Frag} {H : Hp} {d : D} {v : V} (h : DR K H d v) : DRs K H [d] [v] := ⟨v, [], rfl, h, rfl⟩
theorem DRs.set {K : PySem.W.Frag} {H : Hp} {d : D} {v : V} (g : DR K H d v) : ∀ {ds : List D} {vs : List V} (i : Nat), DRs K H ds vs → DRs K H (ds.set i d) (vs.set i v)
  | [], vs, i, h => by cases (show vs = [] from h); exact rfl
  | d' :: ds, vs, 0, h => by
    obtain ⟨v', r, rfl, h2, h3⟩ := h
    exact ⟨v, r, rfl, g, h3⟩
  | d' :: ds, vs, i + 1, h => by
    obtain ⟨v', r, rfl, h2, h3⟩ := h
    exact ⟨v', r.set i v, rfl, h2, DRs.set g i h3⟩
theorem DRs.take {K : PySem.W.Frag} {H : Hp} : ∀ {ds : List D} {vs : List V} (n : Nat), DRs K H ds vs → DRs K H (ds.take n) (vs.take n)
  | ds, vs, 0, h => by simp [DRs]
  | [], vs, n + 1, h => by cases (show vs = [] from h); exact rfl
  | d :: ds, vs, n + 1, h => by
    obtain ⟨v, r, rfl, h2, h3⟩ := h
    exact ⟨v, r.take n, rfl, h2, DRs.take n h3⟩
theorem DRs.drop {K : PySem.W.Frag} {H : Hp} : ∀ {ds : List D} {vs : List V} (n : Nat), DRs K H ds vs → DRs K H (ds.drop n) (vs.drop n)
  | ds, vs, 0, h => by simpa using h
  | [], vs, n + 1, h => by cases (show vs = [] from h); exact rfl
  | d :: ds, vs, n + 1, h => by
    obtain ⟨v, r, rfl, h2, h3⟩ := h
    exact DRs.drop (ds := ds) (vs := r) n h3
theorem DRs.ints {K : PySem.W.Frag} {H : Hp} : ∀ {ns : List Int} {vs : List V}, DRs K H (ns.map D.int) vs → vs = ns.map V.int
  | [], vs, h => h
  | n :: ns, vs, h => by
    obtain ⟨v, r, rfl, h2, h3⟩ := h
    cases (show v = .int n from h2)
    rw [DRs.ints h3]; rfl
theorem DRs.ofInts {K : PySem.W.Frag} {H : Hp} : ∀ (ns : List Int), DRs K H (ns.map D.int) (ns.map V.int)
  | [] => rfl
  | n :: ns => ⟨.int n, ns.map V.int, rfl, rfl, DRs.ofInts ns⟩
theorem DRs.bls {K : PySem.W.Frag} {H : Hp} : ∀ {ns : List Bool} {vs : List V}, DRs K H (ns.map D.bl) vs → vs = ns.map V.bl
  | [], vs, h => h
  | n :: ns, vs, h => by
    obtain ⟨v, r, rfl, h2, h3⟩ := h
    cases (show v = .bl n from h2)
    rw [DRs.bls h3]; rfl
theorem DRs.strs {K : PySem.W.Frag} {H : Hp} : ∀ {ns : List Str} {vs : List V}, DRs K H (ns.map D.str) vs → vs = ns.map V.str
  | [], vs, h => h
  | n :: ns, vs, h => by
    obtain ⟨v, r, rfl, h2, h3⟩ := h
    cases (show v = .str n from h2)
    rw [DRs.strs h3]; rfl

/-! ### the heap's two parts: what is shared, and all of it -/
/-- what may be nobody else's -/
def NT : HO → Prop
  | .tup _ => False
  | _ => True
structure JH (B0 B H0 H : Hp) : Prop where
  s0 : Same B0 H0
  sh : Same H0 H
  sB : Same B H
  fr : ∀ a o, B a = some o → NT o → B0 a = none → H0 a = none
theorem JH.refl {H0 H : Hp} (h : Same H0 H) : JH H0 H H0 H := ⟨Same.refl _, h, Same.refl _, fun _ _ _ _ h => h⟩
theorem JH.trans {B0 B H0 H G0 G : Hp} (a : JH B0 B H0 H) (b : JH H0 H G0 G) : JH B0 B G0 G :=
  ⟨a.s0.trans b.s0, b.sh, a.sB.trans b.sB, fun x o h n h' => b.fr x o (a.sB x o h) n (a.fr x o h n h')⟩
/-- a new thing that is shared at once -/
theorem JH.new {H0 H : Hp} {p : Addr} {o : HO} (h : Same H0 H) (n : H p = none) : JH H0 H (upd H0 p o) (upd H p o) := by
  have n0 : H0 p = none := h.free n
  refine ⟨fun b u e => ?_, fun b u e => ?_, fun b u e => ?_, fun a u e _ e' => ?_⟩
  · rw [upd_ne (ne_of_none e n0)]; exact e
  · by_cases hb : b = p
    · subst hb; rw [upd_same] at e ⊢; exact e
    · rw [upd_ne hb] at e ⊢; exact h b u e
  · rw [upd_ne (ne_of_none e n)]; exact e
  · rw [upd_ne (ne_of_none e n)]; exact e'
/-- a new thing that is nobody else's -/
theorem JH.own {H0 H : Hp} {p : Addr} {o : HO} (h : Same H0 H) (n : H p = none) : JH H0 H H0 (upd H p o) := by
  have n0 : H0 p = none := h.free n
  refine ⟨Same.refl _, fun b u e => ?_, fun b u e => ?_, fun a u e _ e' => e'⟩
  · rw [upd_ne (ne_of_none e n0)]; exact h b u e
  · rw [upd_ne (ne_of_none e n)]; exact e

/-! ### slots -/
/-- what is nobody else's: a list, a dict -/
inductive OC where
  | lst (ds : List D) | dk (ks : List Key) (ds : List D) | dt (ks : List (List Key)) (ds : List D)
  /-- .. while a loop walks it -/
  | fk (ks : List Key) (ds : List D) | ft (ks : List (List Key)) (ds : List D)
  /-- an instance of a class of the text -/
  | ins (cn : Str) (ns : List Str) (ds : List D)
def OCR (K : PySem.W.Frag) (H0 : Hp) : OC → HO → Prop
  | .lst ds, o => ∃ vs, o = .lst vs ∧ DRs K H0 ds vs
  | .dk ks ds, o => ∃ vs, o = .dK (ks.zip vs) ∧ ks.length = vs.length ∧ DRs K H0 ds vs
  | .dt ks ds, o => ∃ vs, o = .dT (ks.zip vs) ∧ ks.length = vs.length ∧ DRs K H0 ds vs
  | .fk ks ds, o => ∃ vs od, o = .frz od (.dK (ks.zip vs)) ∧ ks.length = vs.length ∧ DRs K H0 ds vs
  | .ft ks ds, o => ∃ vs od, o = .frz od (.dT (ks.zip vs)) ∧ ks.length = vs.length ∧ DRs K H0 ds vs
  | .ins cn ns ds, o => ∃ vs C dx, o = .ins C dx (ns.zip vs) ∧ PySem.W.nsIn K mainGlobals cn = some (some (.ref C)) ∧ ns.length = vs.length ∧ DRs K H0 ds vs
theorem OCR.nt {K : PySem.W.Frag} {H0 : Hp} : ∀ {c : OC} {o : HO}, OCR K H0 c o → NT o
  | .lst _, _, ⟨vs, h1, h2⟩ => by subst h1; trivial
  | .dk _ _, _, ⟨vs, h1, h3, h2⟩ => by subst h1; trivial
  | .dt _ _, _, ⟨vs, h1, h3, h2⟩ => by subst h1; trivial
  | .fk _ _, _, ⟨vs, od, h1, h3, h2⟩ => by subst h1; trivial
  | .ft _ _, _, ⟨vs, od, h1, h3, h2⟩ => by subst h1; trivial
  | .ins _ _ _, _, ⟨vs, C, dx, h1, hn, h3, h2⟩ => by subst h1; trivial
theorem OCR.mono {K : PySem.W.Frag} {H0 H0' : Hp} (e : Same H0 H0') : ∀ {c : OC} {o : HO}, OCR K H0 c o → OCR K H0' c o
  | .lst _, _, ⟨vs, h1, h2⟩ => ⟨vs, h1, DRs.mono e _ _ h2⟩
  | .dk _ _, _, ⟨vs, h1, h3, h2⟩ => ⟨vs, h1, h3, DRs.mono e _ _ h2⟩
  | .dt _ _, _, ⟨vs, h1, h3, h2⟩ => ⟨vs, h1, h3, DRs.mono e _ _ h2⟩
  | .fk _ _, _, ⟨vs, od, h1, h3, h2⟩ => ⟨vs, od, h1, h3, DRs.mono e _ _ h2⟩
  | .ft _ _, _, ⟨vs, od, h1, h3, h2⟩ => ⟨vs, od, h1, h3, DRs.mono e _ _ h2⟩
  | .ins _ _ _, _, ⟨vs, C, dx, h1, hn, h3, h2⟩ => ⟨vs, C, dx, h1, hn, h3, DRs.mono e _ _ h2⟩
def OC.d : OC → D
  | .lst ds => .lst ds
  | .dk ks ds => .dk ks ds
  | .dt ks ds => .dt ks ds
  | .fk ks ds => .dk ks ds
  | .ft ks ds => .dt ks ds
  | .ins cn ns ds => .obj cn ns ds
theorem OCR.dr {K : PySem.W.Frag} {H0 : Hp} {c : OC} {a : Addr} {o : HO} (n : H0 a = none) (h : OCR K H0 c o) : DR K (upd H0 a o) c.d (.ref a) := by
  have s0 : Same H0 (upd H0 a o) := fun b u e => by
    rw [upd_ne (fun z => by subst z; rw [n] at e; cases e)]; exact e
  cases c with
  | lst ds => obtain ⟨vs, rfl, r⟩ := h; exact ⟨a, vs, rfl, SqL.of upd_same, DRs.mono s0 _ _ r⟩
  | dk ks ds => obtain ⟨vs, rfl, l, r⟩ := h; exact ⟨a, vs, rfl, .inl upd_same, l, DRs.mono s0 _ _ r⟩
  | dt ks ds => obtain ⟨vs, rfl, l, r⟩ := h; exact ⟨a, vs, rfl, .inl upd_same, l, DRs.mono s0 _ _ r⟩
  | fk ks ds => obtain ⟨vs, od, rfl, l, r⟩ := h; exact ⟨a, vs, rfl, .inr ⟨od, upd_same⟩, l, DRs.mono s0 _ _ r⟩
  | ft ks ds => obtain ⟨vs, od, rfl, l, r⟩ := h; exact ⟨a, vs, rfl, .inr ⟨od, upd_same⟩, l, DRs.mono s0 _ _ r⟩
  | ins cn ns ds => obtain ⟨vs, C, dx, rfl, hn, l, r⟩ := h; exact ⟨a, C, dx, vs, rfl, hn, upd_same, l, DRs.mono s0 _ _ r⟩
inductive Sl where
  | no | sh (d : D) | ow (c : OC)
  /-- what is at d, and things of its own at places that are told -/
  | ox (cs : List (Addr × OC)) (d : D)
/-- a thing of its own stands at a place -/
structure CellR (K : PySem.W.Frag) (B H0 H : Hp) (a : Addr) (c : OC) : Prop where
  ex : ∃ o, H a = some o ∧ H0 a = none ∧ B a = none ∧ OCR K H0 c o
def SlR (K : PySem.W.Frag) (B H0 H : Hp) : Sl → Option V → Prop
  | .no, _ => True
  | .sh d, ov => ∃ v, ov = some v ∧ DR K H0 d v
  | .ow c, ov => ∃ a o, ov = some (.ref a) ∧ H a = some o ∧ H0 a = none ∧ B a = none ∧ OCR K H0 c o
  | .ox cs d, ov => (∃ v, ov = some v ∧ DR K H0 d v) ∧ (∀ p ∈ cs, CellR K B H0 H p.1 p.2) ∧ (cs.map (·.1)).Nodup
/-- the places of what a slot owns -/
def Owns : Sl → Option V → Addr → Prop
  | .ow _, ov, a => ov = some (.ref a)
  | .ox cs _, _, a => a ∈ cs.map (·.1)
  | _, _, _ => False
abbrev En := List Sl
structure J (K : PySem.W.Frag) (B0 B : Hp) (σ : St) (H0 H : Hp) (ρ : En) : Prop where
  hp : JH B0 B H0 H
  len : σ.length = ρ.length
  sl : ∀ (i : Nat) s ov, ρ[i]? = some s → σ[i]? = some ov → SlR K B H0 H s ov
  dis : ∀ (i j : Nat) s s' ov ov' a, ρ[i]? = some s → ρ[j]? = some s' → σ[i]? = some ov → σ[j]? = some ov' → Owns s ov a → Owns s' ov' a → i = j

section
variable {K : PySem.W.Frag} {B0 B H0 H H0' H' : Hp} {σ σ' : St} {ρ ρ' : En}
theorem J.get (j : J K B0 B σ H0 H ρ) {i : Nat} {s : Sl} (h : ρ[i]? = some s) : ∃ ov, σ[i]? = some ov ∧ SlR K B H0 H s ov := by
  have hi : i < σ.length := by
    have := (List.getElem?_eq_some_iff.mp h).1
    rw [j.len]; exact this
  exact ⟨σ[i], by simp [hi], j.sl i s σ[i] h (by simp [hi])⟩
theorem CellR.grow (g : JH H0 H H0' H') {a : Addr} {c : OC} (h : CellR K B H0 H a c) : CellR K B H0' H' a c := by
  obtain ⟨o, h2, h3, h4, h5⟩ := h
  exact ⟨o, g.sB _ _ h2, g.fr _ _ h2 h5.nt h3, h4, h5.mono g.s0⟩
theorem SlR.grow (g : JH H0 H H0' H') {s : Sl} {ov : Option V} (h : SlR K B H0 H s ov) : SlR K B H0' H' s ov := by
  cases s with
  | no => trivial
  | sh d => obtain ⟨v, h1, h2⟩ := h; exact ⟨v, h1, DR.mono g.s0 _ _ h2⟩
  | ow c => obtain ⟨a, o, h1, h2, h3, h4, h5⟩ := h; exact ⟨a, o, h1, g.sB _ _ h2, g.fr _ _ h2 h5.nt h3, h4, h5.mono g.s0⟩
  | ox cs d => obtain ⟨⟨v, h1, h2⟩, h3, h4⟩ := h; exact ⟨⟨v, h1, DR.mono g.s0 _ _ h2⟩, fun p hp => (h3 p hp).grow g, h4⟩
theorem J.grow (j : J K B0 B σ H0 H ρ) (g : JH H0 H H0' H') : J K B0 B σ H0' H' ρ :=
  ⟨j.hp.trans g, j.len, fun i s ov h1 h2 => (j.sl i s ov h1 h2).grow g, j.dis⟩
theorem J.same (j : J K B0 B σ H0 H ρ) : Same H0 H := j.hp.sh
theorem set_get {α : Type} {l : List α} {i j : Nat} {x y : α} (h : (l.set i x)[j]? = some y) : (j = i ∧ y = x ∧ i < l.length) ∨ (j ≠ i ∧ l[j]? = some y) := by
  by_cases e : i = j
  · subst e
    by_cases hl : i < l.length
    · rw [List.getElem?_set_self hl] at h
      exact .inl ⟨rfl, (Option.some.inj h).symm, hl⟩
    · rw [List.getElem?_eq_none (by simpa using hl)] at h; cases h
  · rw [List.getElem?_set_ne e] at h
    exact .inr ⟨fun z => e z.symm, h⟩
/-- what a slot owns is there, not shared, and new since the base -/
theorem J.own (j : J K B0 B σ H0 H ρ) {i : Nat} {s : Sl} {ov : Option V} {a : Addr} (h : ρ[i]? = some s) (hσ : σ[i]? = some ov) (w : Owns s ov a) : ∃ o, H a = some o ∧ H0 a = none ∧ B a = none := by
  have r := j.sl i s ov h hσ
  cases s with
  | no => cases w
  | sh d => cases w
  | ow c =>
    obtain ⟨b, o, e, h2, h3, h4, _⟩ := r
    cases e.symm.trans (show ov = _ from w)
    exact ⟨o, h2, h3, h4⟩
  | ox cs d =>
    obtain ⟨p, hp, rfl⟩ := List.mem_map.mp (show a ∈ cs.map (·.1) from w)
    obtain ⟨o, h2, h3, h4, _⟩ := (r.2.1 p hp).ex
    exact ⟨o, h2, h3, h4⟩
/-- a slot is changed: the heap stays; what it owns then it owned before -/
theorem J.setTo (j : J K B0 B σ H0 H ρ) {i : Nat} {s : Sl} {ov : Option V} (r : SlR K B H0 H s ov) (n : ∀ a, Owns s ov a → ∀ k s' ov', k ≠ i → ρ[k]? = some s' → σ[k]? = some ov' → ¬ Owns s' ov' a) : J K B0 B (σ.set i ov) H0 H (ρ.set i s) := by
  refine ⟨j.hp, by simp [j.len], fun k s1 ov1 h1 h2 => ?_, fun k l s1 s2 o1 o2 a h1 h2 h3 h4 w1 w2 => ?_⟩
  · rcases set_get h1 with ⟨rfl, rfl, _⟩ | ⟨ne, h1⟩
    · rcases set_get h2 with ⟨_, rfl, _⟩ | ⟨ne, _⟩
      · exact r
      · exact absurd rfl ne
    · rcases set_get h2 with ⟨e, _, _⟩ | ⟨_, h2⟩
      · exact absurd e ne
      · exact j.sl k s1 ov1 h1 h2
  · rcases set_get h1 with ⟨e1, q1, _⟩ | ⟨n1, g1⟩
    · rcases set_get h2 with ⟨e2, _, _⟩ | ⟨n2, g2⟩
      · rw [e1, e2]
      · rcases set_get h3 with ⟨_, q3, _⟩ | ⟨n3, _⟩
        · rw [q1, q3] at w1
          rw [List.getElem?_set_ne (Ne.symm n2)] at h4
          exact absurd w2 (n a w1 l s2 o2 n2 g2 h4)
        · exact absurd e1 n3
    · rcases set_get h2 with ⟨e2, q2, _⟩ | ⟨n2, g2⟩
      · rcases set_get h4 with ⟨_, q4, _⟩ | ⟨n4, _⟩
        · rw [q2, q4] at w2
          rw [List.getElem?_set_ne (Ne.symm n1)] at h3
          exact absurd w1 (n a w2 k s1 o1 n1 g1 h3)
        · exact absurd e2 n4
      · rw [List.getElem?_set_ne (Ne.symm n1)] at h3
        rw [List.getElem?_set_ne (Ne.symm n2)] at h4
        exact j.dis k l s1 s2 o1 o2 a g1 g2 h3 h4 w1 w2
/-- .. and its value too stays -/
theorem J.setSl (j : J K B0 B σ H0 H ρ) {i : Nat} {s : Sl} {ov : Option V} (hσ : σ[i]? = some ov) (r : SlR K B H0 H s ov) (n : ∀ a, Owns s ov a → ∀ k s' ov', k ≠ i → ρ[k]? = some s' → σ[k]? = some ov' → ¬ Owns s' ov' a) : J K B0 B σ H0 H (ρ.set i s) := by
  have q := j.setTo (i := i) r n
  have e : σ.set i ov = σ := by
    refine List.ext_getElem? fun k => ?_
    by_cases hk : i = k
    · subst hk
      rw [hσ, List.getElem?_set_self (List.getElem?_eq_some_iff.mp hσ).1]
    · rw [List.getElem?_set_ne hk]
  rwa [e] at q
theorem J.sub (j : J K B0 B σ H0 H ρ) {i : Nat} {s s0 : Sl} {ov : Option V} (h : ρ[i]? = some s0) (hσ : σ[i]? = some ov) (w : ∀ a, Owns s ov a → Owns s0 ov a) : ∀ a, Owns s ov a → ∀ k s' ov', k ≠ i → ρ[k]? = some s' → σ[k]? = some ov' → ¬ Owns s' ov' a :=
  fun a w1 k s' ov' ne h1 h2 w2 => ne (j.dis k i s' s0 ov' ov a h1 h h2 hσ w2 (w a w1))
theorem Owns.none {s : Sl} {ov : Option V} (h : s = .no ∨ ∃ d, s = .sh d) (a : Addr) : ¬ Owns s ov a := by
  rcases h with rfl | ⟨d, rfl⟩ <;> exact fun w => w
/-- a slot gets a value that is shared -/
theorem J.setSh (j : J K B0 B σ H0 H ρ) {i : Nat} {d : D} {v : V} (h : DR K H0 d v) : J K B0 B (σ.set i (some v)) H0 H (ρ.set i (.sh d)) :=
  j.setTo (s := .sh d) ⟨v, rfl, h⟩ fun a w => w.elim
/-- a slot is forgotten -/
theorem J.drop (j : J K B0 B σ H0 H ρ) (i : Nat) : J K B0 B σ H0 H (ρ.set i .no) := by
  by_cases hi : i < σ.length
  · exact j.setSl (s := .no) (ov := σ[i]) (by simp [hi]) True.intro fun a w => w.elim
  · have e : ρ.set i .no = ρ := List.set_eq_of_length_le (by rw [← j.len]; omega)
    rw [e]; exact j
/-- a slot gets a new thing of its own -/
theorem J.setOwn (j : J K B0 B σ H0 H ρ) {i : Nat} {c : OC} {a : Addr} {o : HO} (h : H a = some o) (h0 : H0 a = none) (hB : B a = none) (n : ∀ (k : Nat) s ov, k ≠ i → ρ[k]? = some s → σ[k]? = some ov → ¬ Owns s ov a) (r : OCR K H0 c o) :
    J K B0 B (σ.set i (some (.ref a))) H0 H (ρ.set i (.ow c)) :=
  j.setTo (s := .ow c) ⟨a, o, rfl, h, h0, hB, r⟩ fun b w k s' ov' ne h1 h2 w2 => by
    cases (show some (V.ref a) = some (.ref b) from w)
    exact n k s' ov' ne h1 h2 w2
theorem upd_keep {H : Hp} {a b : Addr} {o u : HO} (h : H b = some u) (n : b ≠ a) : upd H a o b = some u := by rw [upd_ne n]; exact h
theorem CellR.keep {a b : Addr} {c : OC} {o : HO} (h : CellR K B H0 H b c) (n : b ≠ a) : CellR K B H0 (upd H a o) b c := by
  obtain ⟨u, h1, h2⟩ := h
  exact ⟨u, upd_keep h1 n, h2⟩
/-- what slot i owns at a is changed -/
theorem J.writeAt (j : J K B0 B σ H0 H ρ) {i : Nat} {s s' : Sl} {ov : Option V} {a : Addr} {o : HO} (h : ρ[i]? = some s) (hσ : σ[i]? = some ov) (w : Owns s ov a) (ws : ∀ b, Owns s' ov b ↔ Owns s ov b) (r : SlR K B H0 (upd H a o) s' ov) : J K B0 B σ H0 (upd H a o) (ρ.set i s') := by
  obtain ⟨o', h1, h2, h3⟩ := j.own h hσ w
  have ne : ∀ b u, H0 b = some u → b ≠ a := fun b u e z => by subst z; rw [h2] at e; cases e
  have neB : ∀ b u, B b = some u → b ≠ a := fun b u e z => by subst z; rw [h3] at e; cases e
  refine ⟨⟨j.hp.s0, fun b u e => upd_keep (j.hp.sh b u e) (ne b u e), fun b u e => upd_keep (j.hp.sB b u e) (neB b u e), j.hp.fr⟩, by simp [j.len], fun k s1 ov1 g1 g2 => ?_, fun k l s1 s2 o1 o2 b g1 g2 g3 g4 w1 w2 => ?_⟩
  · rcases set_get g1 with ⟨rfl, rfl, _⟩ | ⟨nk, g1⟩
    · rw [hσ] at g2; cases g2
      exact r
    · have q := j.sl k s1 ov1 g1 g2
      have nb : ∀ b, Owns s1 ov1 b → b ≠ a := fun b w1 z => by
        subst z
        exact nk (j.dis k i s1 s ov1 ov b g1 h g2 hσ w1 w)
      cases s1 with
      | no => trivial
      | sh d => exact q
      | ow c2 =>
        obtain ⟨b, ob, f1, f2, f3, f4, f5⟩ := q
        exact ⟨b, ob, f1, upd_keep f2 (nb b f1), f3, f4, f5⟩
      | ox cs d =>
        obtain ⟨q1, q2, q3⟩ := q
        exact ⟨q1, fun p hp => (q2 p hp).keep (nb p.1 (List.mem_map.mpr ⟨p, hp, rfl⟩)), q3⟩
  · have p : ∀ {m : Nat} {s3 : Sl} {o3 : Option V}, (ρ.set i s')[m]? = some s3 → σ[m]? = some o3 → Owns s3 o3 b → ∃ s4, ρ[m]? = some s4 ∧ Owns s4 o3 b := fun {m s3 o3} g gσ w3 => by
      rcases set_get g with ⟨rfl, rfl, _⟩ | ⟨_, g⟩
      · rw [hσ] at gσ; cases gσ
        exact ⟨s, h, (ws b).mp w3⟩
      · exact ⟨s3, g, w3⟩
    obtain ⟨s5, f1, f2⟩ := p g1 g3 w1
    obtain ⟨s6, f3, f4⟩ := p g2 g4 w2
    exact j.dis k l s5 s6 o1 o2 b f1 f3 g3 g4 f2 f4
/-- what a slot owns is changed -/
theorem J.write (j : J K B0 B σ H0 H ρ) {i : Nat} {c c' : OC} {a : Addr} {o : HO} (h : ρ[i]? = some (.ow c)) (hσ : σ[i]? = some (some (.ref a))) (r : OCR K H0 c' o) : J K B0 B σ H0 (upd H a o) (ρ.set i (.ow c')) := by
  obtain ⟨o', h1, h2, h3⟩ := j.own h hσ (show Owns (.ow c) (some (.ref a)) a from rfl)
  exact j.writeAt h hσ rfl (fun b => Iff.rfl) ⟨a, o, rfl, upd_same, h2, h3, r⟩
/-- what a slot owns at a place is given to all -/
theorem J.shareAt (j : J K B0 B σ H0 H ρ) {i : Nat} {s : Sl} {ov : Option V} {a : Addr} {c : OC} {o : HO} (h : ρ[i]? = some s) (hσ : σ[i]? = some ov) (w : Owns s ov a) (h1 : H a = some o) (h4 : OCR K H0 c o) {s' : Sl}
    (ws : ∀ b, Owns s' ov b → Owns s ov b ∧ b ≠ a) (r : DR K (upd H0 a o) c.d (.ref a) → SlR K B (upd H0 a o) H s' ov) : J K B0 B σ (upd H0 a o) H (ρ.set i s') ∧ Same H0 (upd H0 a o) := by
  obtain ⟨o', h1', h2, h3⟩ := j.own h hσ w
  have ne : ∀ b u, H0 b = some u → b ≠ a := fun b u e z => by subst z; rw [h2] at e; cases e
  have s0 : Same H0 (upd H0 a o) := fun b u e => upd_keep e (ne b u e)
  have dr : DR K (upd H0 a o) c.d (.ref a) := by
    exact OCR.dr h2 h4
  refine ⟨⟨⟨j.hp.s0.trans s0, fun b u e => ?_, j.hp.sB, fun b u e nt e' => ?_⟩, by simp [j.len], fun k s1 ov1 g1 g2 => ?_, fun k l s1 s2 o1 o2 b g1 g2 g3 g4 w1 w2 => ?_⟩, s0⟩
  · by_cases hb : b = a
    · subst hb; rw [upd_same] at e; cases e; exact h1
    · rw [upd_ne hb] at e; exact j.hp.sh b u e
  · rw [upd_ne (fun z => by subst z; rw [h3] at e; cases e)]; exact j.hp.fr b u e nt e'
  · rcases set_get g1 with ⟨rfl, rfl, _⟩ | ⟨nk, g1⟩
    · rw [hσ] at g2; cases g2
      exact r dr
    · have q := j.sl k s1 ov1 g1 g2
      have nb : ∀ b, Owns s1 ov1 b → b ≠ a := fun b w1 z => by
        subst z
        exact nk (j.dis k i s1 s ov1 ov b g1 h g2 hσ w1 w)
      cases s1 with
      | no => trivial
      | sh d => obtain ⟨v, f1, f2⟩ := q; exact ⟨v, f1, DR.mono s0 _ _ f2⟩
      | ow c2 =>
        obtain ⟨b, ob, f1, f2, f3, f4, f5⟩ := q
        exact ⟨b, ob, f1, f2, by rw [upd_ne (nb b f1)]; exact f3, f4, f5.mono s0⟩
      | ox cs d =>
        obtain ⟨⟨v, f1, f2⟩, q2, q3⟩ := q
        refine ⟨⟨v, f1, DR.mono s0 _ _ f2⟩, fun p hp => ?_, q3⟩
        obtain ⟨ob, f2, f3, f4, f5⟩ := (q2 p hp).ex
        exact ⟨ob, f2, by rw [upd_ne (nb p.1 (List.mem_map.mpr ⟨p, hp, rfl⟩))]; exact f3, f4, f5.mono s0⟩
  · have p : ∀ {m : Nat} {s3 : Sl} {o3 : Option V}, (ρ.set i s')[m]? = some s3 → σ[m]? = some o3 → Owns s3 o3 b → ∃ s4, ρ[m]? = some s4 ∧ Owns s4 o3 b := fun {m s3 o3} g gσ w3 => by
      rcases set_get g with ⟨rfl, rfl, _⟩ | ⟨_, g⟩
      · rw [hσ] at gσ; cases gσ
        exact ⟨s, h, (ws b w3).1⟩
      · exact ⟨s3, g, w3⟩
    obtain ⟨s5, f1, f2⟩ := p g1 g3 w1
    obtain ⟨s6, f3, f4⟩ := p g2 g4 w2
    exact j.dis k l s5 s6 o1 o2 b f1 f3 g3 g4 f2 f4
/-- what a slot owns is given to all -/
theorem J.share (j : J K B0 B σ H0 H ρ) {i : Nat} {c : OC} (h : ρ[i]? = some (.ow c)) : ∃ H0', J K B0 B σ H0' H (ρ.set i (.sh c.d)) ∧ Same H0 H0' := by
  obtain ⟨ov, e1, a, o, e2, h1, h2, h3, h4⟩ := j.get h
  subst e2
  exact ⟨_, j.shareAt (s' := .sh c.d) h e1 rfl h1 h4 (fun b w => w.elim) fun r => ⟨_, rfl, r⟩⟩
/-- the shared part as it is now for a new base -/
theorem J.rebase (j : J K B0 B σ H0 H ρ) : J K H0 B σ H0 H ρ := ⟨⟨Same.refl _, j.hp.sh, j.hp.sB, fun _ _ _ _ h => h⟩, j.len, j.sl, j.dis⟩
theorem J.unbase (j : J K B0 B σ H0 H ρ) (j' : J K H0 B σ' H0' H' ρ') : J K B0 B σ' H0' H' ρ' :=
  ⟨⟨j.hp.s0.trans j'.hp.s0, j'.hp.sh, j'.hp.sB, fun a o h n h' => j'.hp.fr a o h n (j.hp.fr a o h n h')⟩, j'.len, j'.sl, j'.dis⟩
/-! places that are told -/
theorem CellR.new {a : Addr} {c : OC} {o : HO} (h : H a = some o) (h0 : H0 a = none) (hB : B a = none) (r : OCR K H0 c o) : CellR K B H0 H a c := ⟨o, h, h0, hB, r⟩
/-- the place of what a slot owns is told -/
theorem J.tell (j : J K B0 B σ H0 H ρ) {i : Nat} {c : OC} (h : ρ[i]? = some (.ow c)) : ∃ a, J K B0 B σ H0 H (ρ.set i (.ox [(a, c)] (.ad a))) := by
  obtain ⟨ov, e1, a, o, rfl, h1, h2, h3, h4⟩ := j.get h
  exact ⟨a, j.setSl (s := .ox [(a, c)] (.ad a)) e1 ⟨⟨_, rfl, rfl⟩, fun p hp => by rw [List.mem_singleton] at hp; subst hp; exact .new h1 h2 h3 h4, by simp⟩ (j.sub h e1 fun b w => by
    have e : b = a := by simpa [Owns] using w
    subst e; rfl)⟩
theorem J.cell (j : J K B0 B σ H0 H ρ) {i : Nat} {cs : List (Addr × OC)} {d : D} (h : ρ[i]? = some (.ox cs d)) {a : Addr} {c : OC} (m : (a, c) ∈ cs) : ∃ o, H a = some o ∧ H0 a = none ∧ B a = none ∧ OCR K H0 c o := by
  obtain ⟨ov, e1, h1, h2, h3⟩ := j.get h
  exact (h2 _ m).ex
/-- one of the places anew -/
def putC (cs : List (Addr × OC)) (a : Addr) (c : OC) : List (Addr × OC) := cs.map fun p => if p.1 = a then (a, c) else p
theorem putC_fst (cs : List (Addr × OC)) (a : Addr) (c : OC) : (putC cs a c).map (·.1) = cs.map (·.1) := by
  unfold putC
  rw [List.map_map]
  refine List.map_congr_left fun p _ => ?_
  show (if p.1 = a then (a, c) else p).1 = p.1
  split
  · rename_i h; exact h.symm
  · rfl
theorem J.put (j : J K B0 B σ H0 H ρ) {i : Nat} {cs : List (Addr × OC)} {d : D} (h : ρ[i]? = some (.ox cs d)) {a : Addr} {c c' : OC} {o : HO} (m : (a, c) ∈ cs) (r : OCR K H0 c' o) : J K B0 B σ H0 (upd H a o) (ρ.set i (.ox (putC cs a c') d)) := by
  obtain ⟨ov, e1, h1, h2, h3⟩ := j.get h
  obtain ⟨o', f1, f2, f3, f4⟩ := j.cell h m
  refine j.writeAt h e1 (List.mem_map.mpr ⟨_, m, rfl⟩) (fun b => by simp only [Owns, putC_fst]) ⟨h1, fun p hp => ?_, by rw [putC_fst]; exact h3⟩
  obtain ⟨q, hq, e⟩ := List.mem_map.mp hp
  by_cases hqa : q.1 = a
  · rw [if_pos hqa] at e
    subst e
    exact .new upd_same f2 f3 r
  · rw [if_neg hqa] at e
    subst e
    exact (h2 q hq).keep hqa
/-- a new thing more -/
theorem J.more (j : J K B0 B σ H0 H ρ) (g : JH H0 H H0' H') {i : Nat} {cs : List (Addr × OC)} {d : D} {a : Addr} {c : OC} {o : HO} (h : ρ[i]? = some (.ox cs d)) (h1 : H' a = some o) (h0 : H0' a = none) (n : H a = none) (r : OCR K H0' c o) : J K B0 B σ H0' H' (ρ.set i (.ox (cs ++ [(a, c)]) d)) := by
  obtain ⟨ov, e1, f1, f2, f3⟩ := (j.grow g).get h
  have nin : ∀ k s' ov', ρ[k]? = some s' → σ[k]? = some ov' → ¬ Owns s' ov' a := fun k s' ov' h1 h2 w => by
    obtain ⟨o, e, _⟩ := j.own h1 h2 w
    rw [n] at e; cases e
  have nm : a ∉ cs.map (·.1) := fun w => nin i _ ov h e1 w
  refine (j.grow g).setSl (s := .ox (cs ++ [(a, c)]) d) e1 ⟨f1, fun p hp => ?_, ?_⟩ fun b w k s' ov' ne g1 g2 w2 => ?_
  · rcases List.mem_append.mp hp with hp | hp
    · exact f2 p hp
    · rw [List.mem_singleton] at hp; subst hp
      exact .new h1 h0 (j.hp.sB.free n) r
  · rw [List.map_append, List.nodup_append]
    refine ⟨f3, by simp, fun x hx y hy => ?_⟩
    have : y = a := by simpa using hy
    subst this
    exact fun e => nm (e ▸ hx)
  · have w' : b ∈ cs.map (·.1) ∨ b = a := by
      have : b ∈ (cs ++ [(a, c)]).map (·.1) := w
      rw [List.map_append, List.mem_append] at this
      simpa using this
    rcases w' with w' | rfl
    · exact ne (j.dis k i s' _ ov' ov b g1 h g2 e1 w2 w')
    · exact nin k s' ov' g1 g2 w2
/-- all that a slot owns is given to all -/
theorem shareAll {K : PySem.W.Frag} {B0 B H : Hp} {σ : St} {i : Nat} {d : D} : ∀ {cs : List (Addr × OC)} {H0 : Hp} {ρ : En}, J K B0 B σ H0 H ρ → ρ[i]? = some (.ox cs d) → ∃ H0', J K B0 B σ H0' H (ρ.set i (.sh d)) ∧ Same H0 H0' ∧ ∀ p ∈ cs, DR K H0' p.2.d (.ref p.1)
  | [], H0, ρ, j, h => by
    obtain ⟨ov, e1, h1, h2, h3⟩ := j.get h
    exact ⟨H0, j.setSl (s := .sh d) e1 h1 (fun a w => w.elim), Same.refl _, fun p hp => by simp at hp⟩
  | (a, c) :: cs, H0, ρ, j, h => by
    obtain ⟨ov, e1, ⟨v, h1, h1'⟩, h2, h3⟩ := j.get h
    obtain ⟨o, f1, f2, f3, f4⟩ := j.cell h (List.mem_cons_self ..)
    have nd := List.nodup_cons.mp h3
    obtain ⟨j1, s1⟩ := j.shareAt (s' := .ox cs d) (c := c) h e1 (List.mem_cons_self ..) f1 f4 (fun b w => ⟨List.mem_cons_of_mem _ w, fun z => nd.1 (z ▸ w)⟩) fun r => ⟨⟨v, h1, DR.mono (fun b u e => upd_keep e (fun z => by subst z; rw [f2] at e; cases e)) _ _ h1'⟩, fun p hp => by
      obtain ⟨ob, g2, g3, g4, g5⟩ := (h2 p (List.mem_cons_of_mem _ hp)).ex
      exact ⟨ob, g2, by rw [upd_ne (fun z => nd.1 (by rw [← z]; exact List.mem_map.mpr ⟨p, hp, rfl⟩))]; exact g3, g4, g5.mono (fun b u e => upd_keep e (fun z => by subst z; rw [f2] at e; cases e))⟩, nd.2⟩
    obtain ⟨H1, j3, s3, r3⟩ := shareAll (i := i) (d := d) (cs := cs) j1 (by rw [List.getElem?_set_self (List.getElem?_eq_some_iff.mp h).1])
    rw [List.set_set] at j3
    refine ⟨H1, j3, s1.trans s3, fun p hp => ?_⟩
    rcases List.mem_cons.mp hp with rfl | hp
    · exact DR.mono s3 _ _ (OCR.dr f2 f4)
    · exact r3 p hp
end
end DL

/-! Expressions by data. -/
namespace DL
open PySem PySem.Spec L2

/-! ### the widest readings -/
def RE (X : Cx) (e : Expr) : TE := fun σ H Q => ∃ t, PE X e t ∧ t σ H Q
def RT (X : Cx) (e : Expr) : TT := fun σ H Q => ∃ t, PT X e t ∧ t σ H Q
def RW (X : Cx) (e : Expr) : TT := fun σ H Q => ∃ t, PW X e t ∧ t σ H Q
def RA (X : Cx) (es : List Expr) : TA := fun σ H Q => ∃ t, PA X es t ∧ t σ H Q
def RS (X : Cx) (st : Stmt) : TS := fun D σ H => ∃ t, PS X st t ∧ t D σ H
def RSs (X : Cx) (sts : List Stmt) : TS := fun D σ H => ∃ t, PSs X sts t ∧ t D σ H
def RI (X : Cx) (tg iter : Expr) : TI := fun σ H R => ∃ t, PI X tg iter t ∧ t σ H R
def RG (X : Cx) (tg : Expr) : TG := fun v σ H Q => ∃ t, PG X tg t ∧ t v σ H Q
def RGs (X : Cx) (tg : List Expr) : TGs := fun vs σ H Q => ∃ t, PGs X tg t ∧ t vs σ H Q
section
variable {X : Cx}
theorem pe_star {e} : PE X e (RE X e) := ⟨fun pins s σ H Q I ⟨_, h, q⟩ => h.run pins s σ H Q I q⟩
theorem pt_star {e} : PT X e (RT X e) := ⟨fun pins s σ H Q I ⟨_, h, q⟩ => h.run pins s σ H Q I q⟩
theorem pw_star {e} : PW X e (RW X e) := ⟨fun wh pins s σ H Q I ⟨_, h, q⟩ => h.run wh pins s σ H Q I q⟩
theorem pa_star {es} : PA X es (RA X es) := ⟨fun pos pins s σ H Q I ⟨_, h, q⟩ => h.run pos pins s σ H Q I q⟩
theorem ps_star {st} : PS X st (RS X st) := ⟨fun pins s σ H D I ⟨_, h, q⟩ => h.run pins s σ H D I q⟩
theorem pss_star {st} : PSs X st (RSs X st) := ⟨fun pins s σ H D I ⟨_, h, q⟩ => h.run pins s σ H D I q⟩
theorem pi_star {tg it} : PI X tg it (RI X tg it) := ⟨fun pins s σ H R I ⟨_, h, q⟩ => h.run pins s σ H R I q⟩
theorem pg_star {tg} : PG X tg (RG X tg) := ⟨fun pins s σ H v u Q I r ⟨_, h, q⟩ => h.run pins s σ H v u Q I r q⟩
theorem pgs_star {tg} : PGs X tg (RGs X tg) := ⟨fun pins s σ H v u Q I r ⟨_, h, q⟩ => h.run pins s σ H v u Q I r q⟩
theorem RE.of {e t σ H Q} (h : PE X e t) (q : t σ H Q) : RE X e σ H Q := ⟨t, h, q⟩
theorem RT.of {e t σ H Q} (h : PT X e t) (q : t σ H Q) : RT X e σ H Q := ⟨t, h, q⟩
theorem RA.of {e t σ H Q} (h : PA X e t) (q : t σ H Q) : RA X e σ H Q := ⟨t, h, q⟩
end

/-! ### judgements by data -/
def ED (X : Cx) (ρ : En) (e : Expr) (d : D) : Prop := ∀ B0 B σ H0 H (Q : VK), J X.K B0 B σ H0 H ρ → (∀ v H0' H', JH H0 H H0' H' → DR X.K H0' d v → Q v H') → RE X e σ H Q
/-- .. that is new and nobody else's -/
def EO (X : Cx) (ρ : En) (e : Expr) (c : OC) : Prop := ∀ B0 B σ H0 H (Q : VK), J X.K B0 B σ H0 H ρ → (∀ a o H0' H', JH H0 H H0' H' → H' a = some o → H0' a = none → H a = none → OCR X.K H0' c o → Q (.ref a) H') → RE X e σ H Q
def TD (X : Cx) (ρ : En) (e : Expr) (b : Bool) : Prop := ∀ B0 B σ H0 H (Q : Bool → Hp → Prop), J X.K B0 B σ H0 H ρ → (∀ H0' H', JH H0 H H0' H' → Q b H') → RT X e σ H Q
def TW (X : Cx) (ρ : En) (e : Expr) (b : Bool) : Prop := ∀ B0 B σ H0 H (Q : Bool → Hp → Prop), J X.K B0 B σ H0 H ρ → (∀ H0' H', JH H0 H H0' H' → Q b H') → RW X e σ H Q
def AD (X : Cx) (ρ : En) (es : List Expr) (ds : List D) : Prop := ∀ B0 B σ H0 H (Q : List V → Hp → Prop), J X.K B0 B σ H0 H ρ → (∀ vs H0' H', JH H0 H H0' H' → DRs X.K H0' ds vs → Q vs H') → RA X es σ H Q
/-- by values: a binary operation, a call of a built-in -/
def O2 (K : PySem.W.Frag) (r : R2) (d e f : D) : Prop := ∀ H0 H x y (Q : VK), Same H0 H → DR K H0 d x → DR K H0 e y → (∀ v H0' H', JH H0 H H0' H' → DR K H0' f v → Q v H') → r x y H Q
structure B2 (X : Cx) (op : Operator) (d e f : D) : Prop where
  ex : ∃ r, OpR X (binaryOp op) r ∧ O2 X.K r d e f
structure C2 (X : Cx) (op : CmpOp) (d e f : D) : Prop where
  ex : ∃ r, OpR X (compareOp op) r ∧ O2 X.K r d e f
structure BC (X : Cx) (f : Value) (ds : List D) (d : D) : Prop where
  ex : ∃ r, CallR X f r ∧ ∀ H0 H vs (Q : VK), Same H0 H → DRs X.K H0 ds vs → (∀ v H0' H', JH H0 H H0' H' → DR X.K H0' d v → Q v H') → r vs H Q
structure BO (X : Cx) (f : Value) (ds : List D) (c : OC) : Prop where
  ex : ∃ r, CallR X f r ∧ ∀ H0 H vs (Q : VK), Same H0 H → DRs X.K H0 ds vs → (∀ a o H0' H', JH H0 H H0' H' → H' a = some o → H0' a = none → H a = none → OCR X.K H0' c o → Q (.ref a) H') → r vs H Q

section
variable {X : Cx} {ρ : En} {e a b c : Expr} {d d1 d2 d3 : D} {pos : Pos}
theorem ED.eq {d' : D} (h : ED X ρ e d) (q : d = d') : ED X ρ e d' := q ▸ h
theorem TD.eq {k k' : Bool} (h : TD X ρ e k) (q : k = k') : TD X ρ e k' := q ▸ h
theorem EO.eq {c c' : OC} (h : EO X ρ e c) (q : c = c') : EO X ρ e c' := q ▸ h
theorem DR.own {K : PySem.W.Frag} {H0 : Hp} {c : OC} {a : Addr} {o : HO} (n : H0 a = none) (h : OCR K H0 c o) : DR K (upd H0 a o) c.d (.ref a) := OCR.dr n h
/-- .. and is given to all at once -/
theorem JH.give {H0 H H0' H' : Hp} {a : Addr} {o : HO} (g : JH H0 H H0' H') (h : H' a = some o) (h0 : H0' a = none) (n : H a = none) : JH H0 H (upd H0' a o) H' := by
  refine ⟨fun b u e => upd_keep (g.s0 b u e) (ne_of_none (g.s0 b u e) h0), fun b u e => ?_, g.sB, fun b u e nt e' => ?_⟩
  · by_cases hb : b = a
    · subst hb; rw [upd_same] at e; cases e; exact h
    · rw [upd_ne hb] at e; exact g.sh b u e
  · rw [upd_ne (ne_of_none e n)]; exact g.fr b u e nt e'
theorem ed_own {c : OC} (h : EO X ρ e c) : ED X ρ e c.d := fun B0 B σ H0 H Q j k =>
  h B0 B σ H0 H Q j fun a o H0' H' g h1 h2 h3 r => k _ (upd H0' a o) H' (g.give h1 h2 h3) (DR.own h2 r)
theorem ed_lst {ds : List D} (h : EO X ρ e (.lst ds)) : ED X ρ e (.lst ds) := ed_own h

theorem ed_var (i : Nat) {x : Str} (hρ : ρ[i]? = some (.sh d)) (hN : X.N[i]? = some x := by rfl) (hv : Vis X.env.scope x := by first | exact Or.inl rfl | exact Or.inr (Or.inl rfl) | exact Or.inr (Or.inr rfl)) (hd : (x == ("__debug__" : Str)) = false := by decide)
    (hcd : (x == ("__classdict__" : Str)) = false := by decide) : ED X ρ (.Name x pos) d := fun B0 B σ H0 H Q j k => by
  obtain ⟨ov, h1, v, rfl, h2⟩ := j.get hρ
  exact RE.of (pe_var hN hv hd hcd) ⟨v, h1, k v H0 H (JH.refl j.same) h2⟩
theorem ed_int {i j} : ED X ρ (.Constant (.int i) j pos) (.int i) := fun B0 B σ H0 H Q j k => RE.of pe_int (k _ H0 H (JH.refl j.same) rfl)
theorem ed_bl {i j} : ED X ρ (.Constant (.bool i) j pos) (.bl i) := fun B0 B σ H0 H Q j k => RE.of pe_bl (k _ H0 H (JH.refl j.same) rfl)
theorem ed_non {j} : ED X ρ (.Constant .none j pos) .non := fun B0 B σ H0 H Q j k => RE.of pe_non (k _ H0 H (JH.refl j.same) rfl)
theorem ed_str {i j} : ED X ρ (.Constant (.str i) j pos) (.str i) := fun B0 B σ H0 H Q j k => RE.of pe_str (k _ H0 H (JH.refl j.same) rfl)

theorem ed_bin {op : Operator} (ha : ED X ρ a d1) (hb : ED X ρ b d2) (ho : B2 X op d1 d2 d) : ED X ρ (.BinOp a op b pos) d := fun B0 B σ H0 H Q j k => by
  obtain ⟨r, h1, h2⟩ := ho
  refine RE.of (pe_op h1 pe_star pe_star) (ha B0 B σ H0 H _ j fun x G0 G g1 r1 => ?_)
  refine hb B0 B σ G0 G _ (j.grow g1) fun y L0 L g2 r2 => ?_
  exact h2 L0 L x y Q g2.sh (DR.mono g2.s0 _ _ r1) r2 fun v M0 M g3 r3 => k v M0 M ((g1.trans g2).trans g3) r3
theorem ed_cmp {op : CmpOp} (ha : ED X ρ a d1) (hb : ED X ρ b d2) (ho : C2 X op d1 d2 d) (hm : behindInMarks op b = false := by first | exact nomark _ | rfl) : ED X ρ (.Compare a [op] [b] pos) d := fun B0 B σ H0 H Q j k => by
  obtain ⟨r, h1, h2⟩ := ho
  refine RE.of (pe_cmpR h1 pe_star pe_star hm) (ha B0 B σ H0 H _ j fun x G0 G g1 r1 => ?_)
  refine hb B0 B σ G0 G _ (j.grow g1) fun y L0 L g2 r2 => ?_
  exact h2 L0 L x y Q g2.sh (DR.mono g2.s0 _ _ r1) r2 fun v M0 M g3 r3 => k v M0 M ((g1.trans g2).trans g3) r3
theorem td_cmp {op : CmpOp} {k : Bool} (ha : ED X ρ a d1) (hb : ED X ρ b d2) (ho : C2 X op d1 d2 (.bl k)) (hm : behindInMarks op b = false := by first | exact nomark _ | rfl) : TD X ρ (.Compare a [op] [b] pos) k := fun B0 B σ H0 H Q j kk => by
  obtain ⟨r, h1, h2⟩ := ho
  refine RT.of (pt_cmpR h1 pe_star pe_star hm) (ha B0 B σ H0 H _ j fun x G0 G g1 r1 => ?_)
  refine hb B0 B σ G0 G _ (j.grow g1) fun y L0 L g2 r2 => ?_
  refine h2 L0 L x y _ g2.sh (DR.mono g2.s0 _ _ r1) r2 fun v M0 M g3 r3 => ⟨k, r3, kk M0 M ((g1.trans g2).trans g3)⟩
theorem ed_chain {op op' : CmpOp} {k k' : Bool} (ha : ED X ρ a d1) (hb : ED X ρ b d2) (hc : ED X ρ c d3) (ho : C2 X op d1 d2 (.bl k)) (ho' : C2 X op' d2 d3 (.bl k')) (hm : lastMarks [op, op'] [b, c] = false := by with_unfolding_all rfl) :
    ED X ρ (.Compare a [op, op'] [b, c] pos) (.bl (k && k')) := fun B0 B σ H0 H Q j kk => by
  obtain ⟨r, h1, h2⟩ := ho
  obtain ⟨r', h1', h2'⟩ := ho'
  refine RE.of (pe_chain h1 h1' pe_star pe_star pe_star hm) (ha B0 B σ H0 H _ j fun x G0 G g1 r1 => ?_)
  refine hb B0 B σ G0 G _ (j.grow g1) fun y L0 L g2 r2 => ?_
  refine h2 L0 L x y _ g2.sh (DR.mono g2.s0 _ _ r1) r2 fun v M0 M g3 r3 => ⟨k, r3, ?_⟩
  cases k with
  | false => exact iteF (kk _ M0 M ((g1.trans g2).trans g3) rfl)
  | true =>
    refine iteT (hc B0 B σ M0 M _ (((j.grow g1).grow g2).grow g3) fun z N0 N g4 r4 => ?_)
    exact h2' N0 N y z Q g4.sh (DR.mono (g3.trans g4).s0 _ _ r2) r4 fun v P0 P g5 r5 => kk v P0 P (((g1.trans g2).trans (g3.trans g4)).trans g5) (by simpa using r5)
theorem td_chain {op op' : CmpOp} {k k' : Bool} (ha : ED X ρ a d1) (hb : ED X ρ b d2) (hc : ED X ρ c d3) (ho : C2 X op d1 d2 (.bl k)) (ho' : C2 X op' d2 d3 (.bl k')) (hm : lastMarks [op, op'] [b, c] = false := by with_unfolding_all rfl) :
    TD X ρ (.Compare a [op, op'] [b, c] pos) (k && k') := fun B0 B σ H0 H Q j kk => by
  obtain ⟨r, h1, h2⟩ := ho
  obtain ⟨r', h1', h2'⟩ := ho'
  refine RT.of (pt_chain h1 h1' pe_star pe_star pe_star hm) (ha B0 B σ H0 H _ j fun x G0 G g1 r1 => ?_)
  refine hb B0 B σ G0 G _ (j.grow g1) fun y L0 L g2 r2 => ?_
  refine h2 L0 L x y _ g2.sh (DR.mono g2.s0 _ _ r1) r2 fun v M0 M g3 r3 => ⟨k, r3, ?_⟩
  cases k with
  | false => exact iteF ⟨_, rfl, kk M0 M ((g1.trans g2).trans g3)⟩
  | true =>
    refine iteT (hc B0 B σ M0 M _ (((j.grow g1).grow g2).grow g3) fun z N0 N g4 r4 => ?_)
    exact h2' N0 N y z _ g4.sh (DR.mono (g3.trans g4).s0 _ _ r2) r4 fun v P0 P g5 r5 => ⟨k', r5, kk P0 P (((g1.trans g2).trans (g3.trans g4)).trans g5)⟩

/-! tests -/
theorem td_val {k : Bool} (h : ED X ρ e (.bl k)) (he : ∀ whole, isTrue e X.env whole = (do let v ← whole; standAt e.pos; holding [v] (truthy v)) := by intro _; rfl) : TD X ρ e k := fun B0 B σ H0 H Q j kk =>
  RT.of (pt_val pe_star he) (h B0 B σ H0 H _ j fun v H0' H' g r => ⟨k, r, kk H0' H' g⟩)
theorem td_not {k : Bool} (h : TD X ρ a k) : TD X ρ (.UnaryOp .Not a pos) (!k) := fun B0 B σ H0 H Q j kk =>
  RT.of (pt_not pt_star) (h B0 B σ H0 H _ j fun H0' H' g => kk H0' H' g)
theorem tw_and1 {k : Bool} (h : TD X ρ a k) : TW X ρ (.BoolOp .And [a] pos) k := fun B0 B σ H0 H Q j kk => ⟨_, pw_and1 pt_star, h B0 B σ H0 H _ j kk⟩
theorem tw_or1 {k : Bool} (h : TD X ρ a k) : TW X ρ (.BoolOp .Or [a] pos) k := fun B0 B σ H0 H Q j kk => ⟨_, pw_or1 pt_star, h B0 B σ H0 H _ j kk⟩
theorem tw_and {k k' : Bool} {rest : List Expr} (h : TD X ρ a k) (h' : k = true → TW X ρ (.BoolOp .And (b :: rest) pos) k') : TW X ρ (.BoolOp .And (a :: b :: rest) pos) (k && k') := fun B0 B σ H0 H Q j kk => by
  refine ⟨_, pw_and pt_star pw_star, h B0 B σ H0 H _ j fun H0' H' g => ?_⟩
  cases k with
  | false => exact iteF (kk H0' H' g)
  | true => exact iteT (h' rfl B0 B σ H0' H' _ (j.grow g) fun G0 G g2 => kk G0 G (g.trans g2))
theorem tw_or {k k' : Bool} {rest : List Expr} (h : TD X ρ a k) (h' : k = false → TW X ρ (.BoolOp .Or (b :: rest) pos) k') : TW X ρ (.BoolOp .Or (a :: b :: rest) pos) (k || k') := fun B0 B σ H0 H Q j kk => by
  refine ⟨_, pw_or pt_star pw_star, h B0 B σ H0 H _ j fun H0' H' g => ?_⟩
  cases k with
  | true => exact iteT (kk H0' H' g)
  | false => exact iteF (h' rfl B0 B σ H0' H' _ (j.grow g) fun G0 G g2 => kk G0 G (g.trans g2))
theorem td_tw {k : Bool} (h : TW X ρ e k) : TD X ρ e k := fun B0 B σ H0 H Q j kk => by
  obtain ⟨t, h1, h2⟩ := h B0 B σ H0 H Q j kk
  exact ⟨t, h1.pt, h2⟩
/-- and, or as values -/
theorem ed_one {op} (h : ED X ρ a d) : ED X ρ (.BoolOp op [a] pos) d := fun B0 B σ H0 H Q j kk => RE.of (pe_one pe_star) (h B0 B σ H0 H _ j kk)
theorem ed_and {k k' : Bool} {rest : List Expr} (h : ED X ρ a (.bl k)) (h' : k = true → ED X ρ (.BoolOp .And (b :: rest) pos) (.bl k')) : ED X ρ (.BoolOp .And (a :: b :: rest) pos) (.bl (k && k')) := fun B0 B σ H0 H Q j kk => by
  refine RE.of (pe_and pe_star pe_star) (h B0 B σ H0 H _ j fun v H0' H' g r => ⟨k, r, ?_⟩)
  cases k with
  | false => exact iteF (kk _ H0' H' g rfl)
  | true => exact iteT (h' rfl B0 B σ H0' H' _ (j.grow g) fun v G0 G g2 r2 => kk v G0 G (g.trans g2) r2)
theorem ed_or {k k' : Bool} {rest : List Expr} (h : ED X ρ a (.bl k)) (h' : k = false → ED X ρ (.BoolOp .Or (b :: rest) pos) (.bl k')) : ED X ρ (.BoolOp .Or (a :: b :: rest) pos) (.bl (k || k')) := fun B0 B σ H0 H Q j kk => by
  refine RE.of (pe_or pe_star pe_star) (h B0 B σ H0 H _ j fun v H0' H' g r => ⟨k, r, ?_⟩)
  cases k with
  | true => exact iteT (kk _ H0' H' g rfl)
  | false => exact iteF (h' rfl B0 B σ H0' H' _ (j.grow g) fun v G0 G g2 r2 => kk v G0 G (g.trans g2) r2)
theorem ed_not {k : Bool} (h : ED X ρ a (.bl k)) : ED X ρ (.UnaryOp .Not a pos) (.bl (!k)) := fun B0 B σ H0 H Q j kk =>
  RE.of (pe_not pe_star) (h B0 B σ H0 H _ j fun v H0' H' g r => ⟨k, r, kk _ H0' H' g rfl⟩)
theorem ed_if {k : Bool} (h : TD X ρ c k) (h1 : k = true → ED X ρ a d) (h2 : k = false → ED X ρ b d) : ED X ρ (.IfExp c a b pos) d := fun B0 B σ H0 H Q j kk => by
  refine RE.of (pe_ifExp pt_star pe_star pe_star) (h B0 B σ H0 H _ j fun H0' H' g => ?_)
  cases k with
  | true => exact iteT (h1 rfl B0 B σ H0' H' _ (j.grow g) fun v G0 G g2 r2 => kk v G0 G (g.trans g2) r2)
  | false => exact iteF (h2 rfl B0 B σ H0' H' _ (j.grow g) fun v G0 G g2 r2 => kk v G0 G (g.trans g2) r2)
theorem ed_neg {i : Int} (h : ED X ρ a (.int i)) : ED X ρ (.UnaryOp .USub a pos) (.int (-i)) := fun B0 B σ H0 H Q j kk =>
  RE.of (pe_un un_neg pe_star) (h B0 B σ H0 H _ j fun v H0' H' g r => ⟨i, r, kk _ H0' H' g rfl⟩)

/-! arguments, displays -/
theorem ad_nil : AD X ρ [] [] := fun B0 B σ H0 H Q j k => RA.of pa_nil (k [] H0 H (JH.refl j.same) rfl)
theorem ad_cons {es : List Expr} {ds : List D} (h : ED X ρ e d) (r : AD X ρ es ds) (hs : starEach (e :: es) X.env = (false, eval e X.env) :: starEach es X.env := by rfl) : AD X ρ (e :: es) (d :: ds) := fun B0 B σ H0 H Q j k =>
  RA.of (pa_cons pe_star pa_star hs) (h B0 B σ H0 H _ j fun v G0 G g1 r1 => r B0 B σ G0 G _ (j.grow g1) fun vs L0 L g2 r2 => k (v :: vs) L0 L (g1.trans g2) ⟨v, vs, rfl, DR.mono g2.s0 _ _ r1, r2⟩)
theorem ed_tup {es : List Expr} {ds : List D} {x1} (h : AD X ρ es ds) (hl : ds.length ≤ sizeLine := by first | decide | (simp only [List.length_cons, List.length_nil]; decide)) : ED X ρ (.Tuple es x1 pos) (.tup ds) := fun B0 B σ H0 H Q j k =>
  RE.of (pe_tup pa_star) (h B0 B σ H0 H _ j fun vs G0 G g r => ⟨by rw [← r.length]; exact hl, fun p hp => by
    have g2 : JH G0 G (upd G0 p (.tup vs)) (upd G p (.tup vs)) := JH.new g.sh hp
    exact k _ _ _ (g.trans g2) ⟨p, vs, rfl, SqT.of upd_same, DRs.mono g2.s0 _ _ r⟩⟩)
theorem eo_lst {es : List Expr} {ds : List D} (h : AD X ρ es ds) (hl : ds.length ≤ sizeLine := by first | decide | (simp only [List.length_cons, List.length_nil]; decide)) : EO X ρ (.List es pos) (.lst ds) := fun B0 B σ H0 H Q j k =>
  RE.of (pe_lst pa_star) (h B0 B σ H0 H _ j fun vs G0 G g r => ⟨by rw [← r.length]; exact hl, fun p hp => by
    have g2 : JH G0 G G0 (upd G p (.lst vs)) := JH.own g.sh hp
    exact k p _ _ _ (g.trans g2) upd_same (g.sh.free hp) (g.sB.free hp) ⟨vs, rfl, r⟩⟩)
theorem eo_dk : EO X ρ (.Dict [] [] pos) (.dk [] []) := fun B0 B σ H0 H Q j k =>
  RE.of pe_dnewK fun p hp => k p _ _ _ (JH.own j.same hp) upd_same (j.same.free hp) hp ⟨[], rfl, rfl, rfl⟩
theorem eo_dt : EO X ρ (.Dict [] [] pos) (.dt [] []) := fun B0 B σ H0 H Q j k =>
  RE.of pe_dnewT fun p hp => k p _ _ _ (JH.own j.same hp) upd_same (j.same.free hp) hp ⟨[], rfl, rfl, rfl⟩

/-! calls -/
def spR (K : PySem.W.Frag) (R : List D → D → Prop) : Sp := fun vs H Q _ => ∃ H0 ds d, Same H0 H ∧ DRs K H0 ds vs ∧ R ds d ∧ ∀ r H0' H', JH H0 H H0' H' → DR K H0' d r → Q r H'
/-- a def of the program at hand -/
structure Fn (P : Program) (w : World) (K : PySem.W.Frag) (mg : Str → Option Value) (base : Heap) (x : Str) (k : Nat) (R : List D → D → Prop) : Prop where
  ex : ∃ f fd ps, FnOk P w K mg base CX0 k f fd ps (spR K R) ∧ mg x = some (.ref f) ∧ PySem.W.keepIn K (.ref f) = true ∧ Binds K fd ps []
theorem ed_call {x : Str} {k : Nat} {R : List D → D → Prop} {es : List Expr} {ds : List D} {p : Pos} (G : Fn X.prog X.w X.K X.mg X.base x k R) (hr : Room k X.A) (hg : Gl X x) (ha : AD X ρ (e :: es) ds) (hR : R ds d)
    (hdb : (x == ("__debug__" : Str)) = false := by decide) (he : starEach (e :: es) X.env = (false, eval e X.env) :: starEach es X.env := by rfl) (hpl : (backTo pos (starEach es X.env)).any (·.1) = false := by rfl) :
    ED X ρ (.Call (.Name x p) (e :: es) [] pos) d := fun B0 B σ H0 H Q j kk => by
  obtain ⟨f, fd, ps, F, hm, hk, hb⟩ := G.ex
  refine RE.of (pe_call (E := E0) F hr hg hm hk hb .nil pass0 pa_star hdb he hpl) (ha B0 B σ H0 H _ j fun vs G0 G g r => ?_)
  rw [List.append_nil]
  exact ⟨G0, ds, d, g.sh, r, hR, fun v L0 L g2 r2 => kk v L0 L (g.trans g2) r2⟩
theorem ed_callB {x : Str} {id : String} {es : List Expr} {ds : List D} {p : Pos} (hg : Gl X x) (hm : X.mg x = none) (hv : bootBuiltins x = some (.builtin id)) (ha : AD X ρ (e :: es) ds) (h : BC X (.builtin id) ds d) (hn : x ≠ "__name__" := by decide) (hdb : (x == ("__debug__" : Str)) = false := by decide)
    (he : starEach (e :: es) X.env = (false, eval e X.env) :: starEach es X.env := by rfl) (hpl : (backTo pos (starEach es X.env)).any (·.1) = false := by rfl) : ED X ρ (.Call (.Name x p) (e :: es) [] pos) d := fun B0 B σ H0 H Q j kk => by
  obtain ⟨r, h1, h2⟩ := h
  exact RE.of (pe_callB h1 hg hm hv pa_star hn hdb he hpl) (ha B0 B σ H0 H _ j fun vs G0 G g r => h2 G0 G vs Q g.sh r fun v L0 L g2 r2 => kk v L0 L (g.trans g2) r2)
theorem ed_callT {x : Str} {T : String} {es : List Expr} {ds : List D} {p : Pos} (hg : Gl X x) (hm : X.mg x = none) (hv : bootBuiltins x = some (.type T)) (ha : AD X ρ (e :: es) ds) (h : BC X (.type T) ds d) (hn : x ≠ "__name__" := by decide) (hdb : (x == ("__debug__" : Str)) = false := by decide)
    (he : starEach (e :: es) X.env = (false, eval e X.env) :: starEach es X.env := by rfl) (hpl : (backTo pos (starEach es X.env)).any (·.1) = false := by rfl) : ED X ρ (.Call (.Name x p) (e :: es) [] pos) d := fun B0 B σ H0 H Q j kk => by
  obtain ⟨r, h1, h2⟩ := h
  exact RE.of (pe_callTy h1 hg hm hv pa_star hn hdb he hpl) (ha B0 B σ H0 H _ j fun vs G0 G g r => h2 G0 G vs Q g.sh r fun v L0 L g2 r2 => kk v L0 L (g.trans g2) r2)
theorem eo_callB {x : Str} {id : String} {es : List Expr} {ds : List D} {c : OC} {p : Pos} (hg : Gl X x) (hm : X.mg x = none) (hv : bootBuiltins x = some (.builtin id)) (ha : AD X ρ (e :: es) ds) (h : BO X (.builtin id) ds c) (hn : x ≠ "__name__" := by decide) (hdb : (x == ("__debug__" : Str)) = false := by decide)
    (he : starEach (e :: es) X.env = (false, eval e X.env) :: starEach es X.env := by rfl) (hpl : (backTo pos (starEach es X.env)).any (·.1) = false := by rfl) : EO X ρ (.Call (.Name x p) (e :: es) [] pos) c := fun B0 B σ H0 H Q j kk => by
  obtain ⟨r, h1, h2⟩ := h
  exact RE.of (pe_callB h1 hg hm hv pa_star hn hdb he hpl) (ha B0 B σ H0 H _ j fun vs G0 G g r => h2 G0 G vs Q g.sh r fun a o L0 L g2 h3 h4 h5 r2 => kk a o L0 L (g.trans g2) h3 h4 (g.sB.free h5) r2)
theorem eo_callT {x : Str} {T : String} {es : List Expr} {ds : List D} {c : OC} {p : Pos} (hg : Gl X x) (hm : X.mg x = none) (hv : bootBuiltins x = some (.type T)) (ha : AD X ρ (e :: es) ds) (h : BO X (.type T) ds c) (hn : x ≠ "__name__" := by decide) (hdb : (x == ("__debug__" : Str)) = false := by decide)
    (he : starEach (e :: es) X.env = (false, eval e X.env) :: starEach es X.env := by rfl) (hpl : (backTo pos (starEach es X.env)).any (·.1) = false := by rfl) : EO X ρ (.Call (.Name x p) (e :: es) [] pos) c := fun B0 B σ H0 H Q j kk => by
  obtain ⟨r, h1, h2⟩ := h
  exact RE.of (pe_callTy h1 hg hm hv pa_star hn hdb he hpl) (ha B0 B σ H0 H _ j fun vs G0 G g r => h2 G0 G vs Q g.sh r fun a o L0 L g2 h3 h4 h5 r2 => kk a o L0 L (g.trans g2) h3 h4 (g.sB.free h5) r2)
end

/-! ### operations on data -/
section
variable {X : Cx}
theorem o2_keep {K : PySem.W.Frag} {r : R2} {d e f : D} (v : V) (hv : ∀ H0 : Hp, DR K H0 f v) (h : ∀ H0 H x y (Q : VK), Same H0 H → DR K H0 d x → DR K H0 e y → Q v H → r x y H Q) : O2 K r d e f := fun H0 H x y Q s r1 r2 k =>
  h H0 H x y Q s r1 r2 (k v H0 H (JH.refl s) (hv H0))
theorem b2_add {i j : Int} : B2 X .Add (.int i) (.int j) (.int (i + j)) := ⟨_, op_add, o2_keep _ (fun _ => rfl) fun _ _ _ _ _ _ r1 r2 q => ⟨i, j, r1, r2, q⟩⟩
theorem b2_sub {i j : Int} : B2 X .Sub (.int i) (.int j) (.int (i - j)) := ⟨_, op_sub, o2_keep _ (fun _ => rfl) fun _ _ _ _ _ _ r1 r2 q => ⟨i, j, r1, r2, q⟩⟩
theorem b2_mul {i j : Int} (h : CMul i j) : B2 X .Mult (.int i) (.int j) (.int (i * j)) := ⟨_, op_mul, o2_keep _ (fun _ => rfl) fun _ _ _ _ _ _ r1 r2 q => ⟨i, j, r1, r2, h, q⟩⟩
theorem b2_fdiv {i j : Int} (h : CDiv i j) : B2 X .FloorDiv (.int i) (.int j) (.int (i / j)) := ⟨_, op_fdiv, o2_keep _ (fun _ => rfl) fun _ _ _ _ _ _ r1 r2 q => ⟨i, j, r1, r2, h, q⟩⟩
theorem b2_mod {i j : Int} (h : 0 < j) : B2 X .Mod (.int i) (.int j) (.int (i % j)) := ⟨_, op_mod, o2_keep _ (fun _ => rfl) fun _ _ _ _ _ _ r1 r2 q => ⟨i, j, r1, r2, h, q⟩⟩
theorem b2_pow {i j : Int} (h : CPow i j) : B2 X .Pow (.int i) (.int j) (.int (i ^ j.toNat)) := ⟨_, op_pow, o2_keep _ (fun _ => rfl) fun _ _ _ _ _ _ r1 r2 q => ⟨i, j, r1, r2, h, q⟩⟩
theorem b2_addS {i j : Str} (h : i.length + j.length ≤ sizeLine) : B2 X .Add (.str i) (.str j) (.str (i ++ j)) := ⟨_, op_add_str, o2_keep _ (fun _ => rfl) fun _ _ _ _ _ _ r1 r2 q => ⟨i, j, r1, r2, h, q⟩⟩
theorem c2_lt {i j : Int} : C2 X .Lt (.int i) (.int j) (.bl (decide (i < j))) := ⟨_, op_lt, o2_keep _ (fun _ => rfl) fun _ _ _ _ _ _ r1 r2 q => ⟨i, j, r1, r2, q⟩⟩
theorem c2_le {i j : Int} : C2 X .LtE (.int i) (.int j) (.bl (decide (i ≤ j))) := ⟨_, op_le, o2_keep _ (fun _ => rfl) fun _ _ _ _ _ _ r1 r2 q => ⟨i, j, r1, r2, q⟩⟩
theorem c2_gt {i j : Int} : C2 X .Gt (.int i) (.int j) (.bl (decide (j < i))) := ⟨_, op_gt, o2_keep _ (fun _ => rfl) fun _ _ _ _ _ _ r1 r2 q => ⟨i, j, r1, r2, q⟩⟩
theorem c2_ge {i j : Int} : C2 X .GtE (.int i) (.int j) (.bl (decide (j ≤ i))) := ⟨_, op_ge, o2_keep _ (fun _ => rfl) fun _ _ _ _ _ _ r1 r2 q => ⟨i, j, r1, r2, q⟩⟩
theorem c2_eqI {i j : Int} : C2 X .Eq (.int i) (.int j) (.bl (decide (i = j))) := ⟨_, op_eq, fun H0 H x y Q s r1 r2 k => by
  cases (show x = .int i from r1); cases (show y = .int j from r2)
  exact ⟨rfl, k _ H0 H (JH.refl s) (by simp [DR])⟩⟩
theorem c2_neI {i j : Int} : C2 X .NotEq (.int i) (.int j) (.bl (!decide (i = j))) := ⟨_, op_ne, fun H0 H x y Q s r1 r2 k => by
  cases (show x = .int i from r1); cases (show y = .int j from r2)
  exact ⟨rfl, k _ H0 H (JH.refl s) (by simp [DR])⟩⟩
theorem c2_eqS {i j : Str} : C2 X .Eq (.str i) (.str j) (.bl (decide (i = j))) := ⟨_, op_eq, fun H0 H x y Q s r1 r2 k => by
  cases (show x = .str i from r1); cases (show y = .str j from r2)
  exact ⟨rfl, k _ H0 H (JH.refl s) (by simp [DR])⟩⟩
theorem c2_neS {i j : Str} : C2 X .NotEq (.str i) (.str j) (.bl (!decide (i = j))) := ⟨_, op_ne, fun H0 H x y Q s r1 r2 k => by
  cases (show x = .str i from r1); cases (show y = .str j from r2)
  exact ⟨rfl, k _ H0 H (JH.refl s) (by simp [DR])⟩⟩
theorem c2_eqB {i j : Bool} : C2 X .Eq (.bl i) (.bl j) (.bl (decide (i = j))) := ⟨_, op_eq, fun H0 H x y Q s r1 r2 k => by
  cases (show x = .bl i from r1); cases (show y = .bl j from r2)
  exact ⟨rfl, k _ H0 H (JH.refl s) (by simp [DR])⟩⟩
theorem c2_neB {i j : Bool} : C2 X .NotEq (.bl i) (.bl j) (.bl (!decide (i = j))) := ⟨_, op_ne, fun H0 H x y Q s r1 r2 k => by
  cases (show x = .bl i from r1); cases (show y = .bl j from r2)
  exact ⟨rfl, k _ H0 H (JH.refl s) (by simp [DR])⟩⟩
theorem c2_isB {i j : Bool} : C2 X .Is (.bl i) (.bl j) (.bl (decide (i = j))) := ⟨_, op_isBl, o2_keep _ (fun _ => rfl) fun _ _ _ _ _ _ r1 r2 q => ⟨i, j, r1, r2, q⟩⟩
theorem c2_notB {i j : Bool} : C2 X .IsNot (.bl i) (.bl j) (.bl (!decide (i = j))) := ⟨_, op_notBl, o2_keep _ (fun _ => rfl) fun _ _ _ _ _ _ r1 r2 q => ⟨i, j, r1, r2, q⟩⟩
def isNon : D → Bool
  | .non => true
  | _ => false
theorem DR.non {K : PySem.W.Frag} {H : Hp} {d : D} {v : V} (h : DR K H d v) : decide (v = .non) = isNon d := by
  cases d with
  | non => cases (show v = .non from h); rfl
  | bl _ => cases (show v = .bl _ from h); rfl
  | int _ => cases (show v = .int _ from h); rfl
  | str _ => cases (show v = .str _ from h); rfl
  | ty _ => cases (show v = .ty _ from h); rfl
  | lst _ => obtain ⟨_, _, rfl, _⟩ := h; rfl
  | tup _ => obtain ⟨_, _, rfl, _⟩ := h; rfl
  | dk _ _ => obtain ⟨_, _, rfl, _⟩ := h; rfl
  | dt _ _ => obtain ⟨_, _, rfl, _⟩ := h; rfl
  | obj _ _ _ => obtain ⟨_, _, _, _, rfl, _⟩ := h; rfl
  | ad _ => cases (show v = .ref _ from h); rfl
  | ptp _ => obtain ⟨_, _, _, rfl, _⟩ := h; rfl
theorem c2_isN {d : D} : C2 X .Is d .non (.bl (isNon d)) := ⟨_, op_isN, fun H0 H x y Q s r1 r2 k => ⟨r2, k _ H0 H (JH.refl s) (by rw [r1.non]; rfl)⟩⟩
theorem c2_notN {d : D} : C2 X .IsNot d .non (.bl (!isNon d)) := ⟨_, op_notN, fun H0 H x y Q s r1 r2 k => ⟨r2, k _ H0 H (JH.refl s) (by rw [r1.non]; rfl)⟩⟩

/-! data compared as a whole -/
mutual
def D.py : D → PyData
  | .non => .none
  | .bl b => .bool b
  | .int i => .int i
  | .str x => .str x
  | .lst ds => .list (D.pys ds)
  | .tup ds => .tuple (D.pys ds)
  | .dk _ _ => .none
  | .dt _ _ => .none
  | .obj _ _ _ => .none
  | .ad _ => .none
  | .ptp _ => .none
  | .ty _ => .none
def D.pys : List D → List PyData
  | [] => []
  | d :: ds => D.py d :: D.pys ds
end
mutual
def D.plain : D → Bool
  | .lst ds => D.plains ds
  | .tup ds => D.plains ds
  | .dk _ _ => false
  | .dt _ _ => false
  | .obj _ _ _ => false
  | .ad _ => false
  | .ptp _ => false
  | .ty _ => false
  | _ => true
def D.plains : List D → Bool
  | [] => true
  | d :: ds => D.plain d && D.plains ds
end
mutual
theorem DR.dp {K : PySem.W.Frag} {H : Hp} : ∀ (d : D) (v : V), d.plain = true → DR K H d v → Dp K H v d.py
  | .non, v, _, h => by cases (show v = .non from h); exact .non
  | .bl b, v, _, h => by cases (show v = .bl b from h); exact .bl b
  | .int b, v, _, h => by cases (show v = .int b from h); exact .int b
  | .str b, v, _, h => by cases (show v = .str b from h); exact .str b
  | .lst ds, v, p, h => by
    obtain ⟨a, vs, rfl, h2, h3⟩ := h
    exact .lst h2 (DRs.dp ds vs (by simpa [D.plain] using p) h3)
  | .tup ds, v, p, h => by
    obtain ⟨a, vs, rfl, h2, h3⟩ := h
    exact .tup h2 (DRs.dp ds vs (by simpa [D.plain] using p) h3)
  | .dk _ _, v, p, h => by simp [D.plain] at p
  | .dt _ _, v, p, h => by simp [D.plain] at p
  | .obj _ _ _, v, p, h => by simp [D.plain] at p
  | .ad _, v, p, h => by simp [D.plain] at p
  | .ptp _, v, p, h => by simp [D.plain] at p
  | .ty _, v, p, h => by simp [D.plain] at p
theorem DRs.dp {K : PySem.W.Frag} {H : Hp} : ∀ (ds : List D) (vs : List V), D.plains ds = true → DRs K H ds vs → DpAll K H vs (D.pys ds)
  | [], vs, _, h => by cases (show vs = [] from h); exact .nil
  | d :: ds, vs, p, h => by
    obtain ⟨v, r, rfl, h2, h3⟩ := h
    simp only [D.plains, Bool.and_eq_true] at p
    exact .cons (DR.dp d v p.1 h2) (DRs.dp ds r p.2 h3)
end
/-- data that == may be asked of -/
structure Cmp (d : D) : Prop where
  p : d.plain = true
  s : SeqAt.shaped d.py = true
theorem c2_eqD {d e : D} {k : Bool} (hu : X.A.units + 64 < cLine) (hd : Cmp d) (he : Cmp e) (h : PyData.eqv d.py e.py = k) : C2 X .Eq d e (.bl k) := ⟨_, op_eqD hu, fun H0 H x y Q s r1 r2 kk =>
  ⟨d.py, e.py, DR.dp _ _ hd.p (DR.mono s _ _ r1), DR.dp _ _ he.p (DR.mono s _ _ r2), hd.s, he.s, kk _ H0 H (JH.refl s) (by rw [h]; rfl)⟩⟩
theorem c2_neD {d e : D} {k : Bool} (hu : X.A.units + 64 < cLine) (hd : Cmp d) (he : Cmp e) (h : PyData.eqv d.py e.py = k) : C2 X .NotEq d e (.bl (!k)) := ⟨_, op_neD hu, fun H0 H x y Q s r1 r2 kk =>
  ⟨d.py, e.py, DR.dp _ _ hd.p (DR.mono s _ _ r1), DR.dp _ _ he.p (DR.mono s _ _ r2), hd.s, he.s, kk _ H0 H (JH.refl s) (by rw [h]; rfl)⟩⟩

/-! items, slices -/
theorem ix_t {ds : List D} {i : Int} {d : D} {ρ : En} {a b : Expr} {pos : Pos} (ha : ED X ρ a (.tup ds)) (hb : ED X ρ b (.int i)) (h : atI ds i = some d) (hs : PlainIx b := by exact fun _ _ => rfl) : ED X ρ (.Subscript a b pos) d := fun B0 B σ H0 H Q j kk => by
  refine RE.of (pe_ix ix_tup pe_star pe_star hs) (ha B0 B σ H0 H _ j fun x G0 G g1 r1 => hb B0 B σ G0 G _ (j.grow g1) fun y L0 L g2 r2 => ?_)
  obtain ⟨p, vs, rfl, h1, h2⟩ := DR.mono g2.s0 _ _ r1
  obtain ⟨k, e1, e2, _⟩ := atI_get h
  obtain ⟨v, h3, h4⟩ := DRs.get h2 e2
  have e4 : atI vs i = some v := by
    unfold atI at h ⊢
    rw [← DRs.length h2]
    cases q : ixN ds.length i with
    | none => rw [q] at h; cases h
    | some m =>
      rw [q] at h
      obtain ⟨v', h5, h6⟩ := DRs.get h2 (show ds[m]? = some d from h)
      show vs[m]? = some v
      have := (ixN_seq q).1
      rw [e1] at this
      cases this
      exact h3
  exact ⟨p, vs, i, v, rfl, r2, Same.seqT g2.sh h1, e4, kk v L0 L (g1.trans g2) h4⟩
theorem ix_l {ds : List D} {i : Int} {d : D} {ρ : En} {a b : Expr} {pos : Pos} (ha : ED X ρ a (.lst ds)) (hb : ED X ρ b (.int i)) (h : atI ds i = some d) (hs : PlainIx b := by exact fun _ _ => rfl) : ED X ρ (.Subscript a b pos) d := fun B0 B σ H0 H Q j kk => by
  refine RE.of (pe_ix ix_list pe_star pe_star hs) (ha B0 B σ H0 H _ j fun x G0 G g1 r1 => hb B0 B σ G0 G _ (j.grow g1) fun y L0 L g2 r2 => ?_)
  obtain ⟨p, vs, rfl, h1, h2⟩ := DR.mono g2.s0 _ _ r1
  obtain ⟨k, e1, e2, _⟩ := atI_get h
  obtain ⟨v, h3, h4⟩ := DRs.get h2 e2
  have e4 : atI vs i = some v := by
    unfold atI at h ⊢
    rw [← DRs.length h2]
    cases q : ixN ds.length i with
    | none => rw [q] at h; cases h
    | some m =>
      rw [q] at h
      show vs[m]? = some v
      have := (ixN_seq q).1
      rw [e1] at this
      cases this
      exact h3
  exact ⟨p, vs, i, v, rfl, r2, g2.sh.seq h1, e4, kk v L0 L (g1.trans g2) h4⟩

/-! built-ins -/
theorem bc_keep {f : Value} {ds : List D} {d : D} {r : List V → Hp → VK → Prop} (c : CallR X f r) (v : V) (hv : ∀ H0 : Hp, DR X.K H0 d v) (h : ∀ H0 H vs (Q : VK), Same H0 H → DRs X.K H0 ds vs → Q v H → r vs H Q) : BC X f ds d :=
  ⟨r, c, fun H0 H vs Q s r1 k => h H0 H vs Q s r1 (k v H0 H (JH.refl s) (hv H0))⟩
theorem DRs.two {K : PySem.W.Frag} {H : Hp} {d e : D} {vs : List V} (h : DRs K H [d, e] vs) : ∃ x y, vs = [x, y] ∧ DR K H d x ∧ DR K H e y := by
  obtain ⟨x, r, rfl, h1, h2⟩ := h
  obtain ⟨y, r, rfl, h3, h4⟩ := h2
  cases (show r = [] from h4)
  exact ⟨x, y, rfl, h1, h3⟩
theorem DRs.one' {K : PySem.W.Frag} {H : Hp} {d : D} {vs : List V} (h : DRs K H [d] vs) : ∃ x, vs = [x] ∧ DR K H d x := by
  obtain ⟨x, r, rfl, h1, h2⟩ := h
  cases (show r = [] from h2)
  exact ⟨x, rfl, h1⟩
theorem bc_int {i : Int} : BC X (.type "int") [.int i] (.int i) := bc_keep call_int1 _ (fun _ => rfl) fun _ _ vs _ _ r q => by
  obtain ⟨x, rfl, h⟩ := r.one'
  cases (show x = .int i from h)
  exact .inl ⟨i, rfl, q⟩
theorem bc_min2 {i j : Int} (hc : X.calm = true) : BC X (.builtin "min") [.int i, .int j] (.int (min i j)) := bc_keep (call_min2 hc) _ (fun _ => rfl) fun _ _ vs _ _ r q => by
  obtain ⟨x, y, rfl, h, h'⟩ := r.two
  cases (show x = .int i from h); cases (show y = .int j from h')
  have e : min i j = (if j < i then j else i) := by split <;> omega
  exact ⟨i, j, rfl, by rw [← e]; exact q⟩
theorem bc_max2 {i j : Int} (hc : X.calm = true) : BC X (.builtin "max") [.int i, .int j] (.int (max i j)) := bc_keep (call_max2 hc) _ (fun _ => rfl) fun _ _ vs _ _ r q => by
  obtain ⟨x, y, rfl, h, h'⟩ := r.two
  cases (show x = .int i from h); cases (show y = .int j from h')
  have e : max i j = (if j > i then j else i) := by split <;> omega
  exact ⟨i, j, rfl, by rw [← e]; exact q⟩
theorem bc_lenL {ds : List D} : BC X (.builtin "len") [.lst ds] (.int ds.length) := bc_keep call_len_seq _ (fun _ => rfl) fun _ _ vs _ s r q => by
  obtain ⟨x, rfl, a, ys, rfl, h1, h2⟩ := r.one'
  exact ⟨a, ys, rfl, .inl (s.seq h1), by rw [← DRs.length h2]; exact q⟩
theorem bc_lenT {ds : List D} : BC X (.builtin "len") [.tup ds] (.int ds.length) := bc_keep call_len_seq _ (fun _ => rfl) fun _ _ vs _ s r q => by
  obtain ⟨x, rfl, a, ys, rfl, h1, h2⟩ := r.one'
  exact ⟨a, ys, rfl, .inr (Same.seqT s h1), by rw [← DRs.length h2]; exact q⟩
theorem bc_lenS {z : Str} (h : z.length ≤ sizeLine) : BC X (.builtin "len") [.str z] (.int z.length) := bc_keep call_len_str _ (fun _ => rfl) fun _ _ vs _ s r q => by
  obtain ⟨x, rfl, h1⟩ := r.one'
  exact ⟨z, by rw [show x = .str z from h1], h, q⟩
theorem bc_tupL {ds : List D} : BC X (.type "tuple") [.lst ds] (.tup ds) := ⟨_, call_tuple_of, fun H0 H vs Q s r k => by
  obtain ⟨x, rfl, a, ys, rfl, h1, h2⟩ := r.one'
  exact ⟨a, ys, rfl, .inl ⟨s.seq h1, fun l hl => k _ (upd H0 l (.tup ys)) _ (JH.new s hl) ⟨l, ys, rfl, SqT.of upd_same, DRs.mono (JH.new s hl).s0 _ _ h2⟩⟩⟩⟩
theorem bc_tupT {ds : List D} : BC X (.type "tuple") [.tup ds] (.tup ds) := ⟨_, call_tuple_of, fun H0 H vs Q s r k => by
  obtain ⟨x, rfl, a, ys, rfl, h1, h2⟩ := r.one'
  exact ⟨a, ys, rfl, .inr ⟨Same.seqT s h1, k _ H0 H (JH.refl s) ⟨a, ys, rfl, h1, h2⟩⟩⟩⟩
theorem bo_listL {ds : List D} : BO X (.type "list") [.lst ds] (.lst ds) := ⟨_, call_list_of, fun H0 H vs Q s r k => by
  obtain ⟨x, rfl, a, ys, rfl, h1, h2⟩ := r.one'
  exact ⟨a, ys, rfl, .inl (s.seq h1), fun l hl => k l _ _ _ (JH.own s hl) upd_same (s.free hl) hl ⟨ys, rfl, h2⟩⟩⟩
theorem bo_listT {ds : List D} : BO X (.type "list") [.tup ds] (.lst ds) := ⟨_, call_list_of, fun H0 H vs Q s r k => by
  obtain ⟨x, rfl, a, ys, rfl, h1, h2⟩ := r.one'
  exact ⟨a, ys, rfl, .inr (Same.seqT s h1), fun l hl => k l _ _ _ (JH.own s hl) upd_same (s.free hl) hl ⟨ys, rfl, h2⟩⟩⟩
theorem bc_sum {ns : List Int} (hc : X.calm = true) : BC X (.builtin "sum") [.lst (ns.map D.int)] (.int ns.sum) := bc_keep (cr_sum hc) _ (fun _ => rfl) fun _ _ vs _ s r q => by
  obtain ⟨x, rfl, a, ys, rfl, h1, h2⟩ := r.one'
  rw [DRs.ints h2] at h1
  exact ⟨a, ns, rfl, s.seq h1, q⟩
theorem bc_all {bs : List Bool} (hc : X.calm = true) : BC X (.builtin "all") [.lst (bs.map D.bl)] (.bl (bs.all id)) := bc_keep (cr_all hc) _ (fun _ => rfl) fun _ _ vs _ s r q => by
  obtain ⟨x, rfl, a, ys, rfl, h1, h2⟩ := r.one'
  rw [DRs.bls h2] at h1
  exact ⟨a, bs, rfl, s.seq h1, q⟩
theorem bc_any {bs : List Bool} (hc : X.calm = true) : BC X (.builtin "any") [.lst (bs.map D.bl)] (.bl (bs.any id)) := bc_keep (cr_any hc) _ (fun _ => rfl) fun _ _ vs _ s r q => by
  obtain ⟨x, rfl, a, ys, rfl, h1, h2⟩ := r.one'
  rw [DRs.bls h2] at h1
  exact ⟨a, bs, rfl, s.seq h1, q⟩
/-- the greatest, the least of a list that is not empty -/
theorem bc_maxL {ns : List Int} {m : Int} (hc : X.calm = true) (hm : m ∈ ns) (hle : ∀ y ∈ ns, y ≤ m) : BC X (.builtin "max") [.lst (ns.map D.int)] (.int m) := ⟨_, cr_max hc, fun H0 H vs Q s r k => by
  obtain ⟨x, rfl, a, ys, rfl, h1, h2⟩ := r.one'
  rw [DRs.ints h2] at h1
  refine ⟨a, ns, rfl, s.seq h1, List.length_pos_of_mem hm, fun m' h3 h4 => ?_⟩
  have e : m' = m := Int.le_antisymm (hle _ h3) (h4 _ hm)
  exact k _ H0 H (JH.refl s) (by rw [e]; rfl)⟩
theorem bc_minL {ns : List Int} {m : Int} (hc : X.calm = true) (hm : m ∈ ns) (hle : ∀ y ∈ ns, m ≤ y) : BC X (.builtin "min") [.lst (ns.map D.int)] (.int m) := ⟨_, cr_min hc, fun H0 H vs Q s r k => by
  obtain ⟨x, rfl, a, ys, rfl, h1, h2⟩ := r.one'
  rw [DRs.ints h2] at h1
  refine ⟨a, ns, rfl, s.seq h1, List.length_pos_of_mem hm, fun m' h3 h4 => ?_⟩
  have e : m' = m := Int.le_antisymm (h4 _ hm) (hle _ h3)
  exact k _ H0 H (JH.refl s) (by rw [e]; rfl)⟩
end
end DL

/-! Targets, what is walked, comprehensions, statements, defs: by data. -/
namespace DL
open PySem PySem.Spec L2

/-! ### targets -/
def DG (X : Cx) (is : List Nat) (tg : Expr) (d : D) (ρ ρ' : En) : Prop := ∀ B0 B σ H0 H v (Q : St → Hp → Prop), J X.K B0 B σ H0 H ρ → DR X.K H0 d v → (∀ σ', J X.K B0 B σ' H0 H ρ' → (∀ k, k ∉ is → σ'[k]? = σ[k]?) → Q σ' H) → RG X tg v σ H Q
def DGs (X : Cx) (is : List Nat) (ts : List Expr) (ds : List D) (ρ ρ' : En) : Prop := ∀ B0 B σ H0 H vs (Q : St → Hp → Prop), J X.K B0 B σ H0 H ρ → DRs X.K H0 ds vs → (∀ σ', J X.K B0 B σ' H0 H ρ' → (∀ k, k ∉ is → σ'[k]? = σ[k]?) → Q σ' H) → RGs X ts vs σ H Q
section
variable {X : Cx} {ρ ρ' ρ2 : En} {e a b c : Expr} {d d1 d2 d3 : D} {pos : Pos}
theorem dg_name (i : Nat) {x : Str} (hN : X.N.Nodup) (hi : X.N[i]? = some x := by rfl) (hx : Loc X.env.scope x := by first | exact Or.inl rfl | exact Or.inr rfl) (hf : X.fn x = true ∨ X.env.scope.names.lookup x = some .local := by first | exact .inl rfl | exact .inr rfl) :
    DG X [i] (.Name x pos) d ρ (ρ.set i (.sh d)) := fun B0 B σ H0 H v Q j r k => by
  refine ⟨_, pg_name hN hi hx hf, k _ (j.setSh r) fun m hm => ?_⟩
  rw [List.getElem?_set_ne (fun e => hm (by simp [e]))]
theorem dgs_nil : DGs X [] [] [] ρ ρ := fun B0 B σ H0 H vs Q j r k => by
  cases (show vs = [] from r)
  exact ⟨_, pgs_nil, rfl, k σ j fun _ _ => rfl⟩
theorem dgs_cons {is is' : List Nat} {es : List Expr} {ds : List D} (h : DG X is e d ρ ρ') (r : DGs X is' es ds ρ' ρ2) (hs : (assignEach (e :: es) X.env).map (·.2) = assign e X.env :: (assignEach es X.env).map (·.2) := by rfl) :
    DGs X (is ++ is') (e :: es) (d :: ds) ρ ρ2 := fun B0 B σ H0 H vs Q j rr k => by
  obtain ⟨v, ws, rfl, r1, r2⟩ := rr
  refine ⟨_, pgs_cons pg_star pgs_star hs, v, ws, rfl, h B0 B σ H0 H v _ j r1 fun σ1 j1 k1 => r B0 B σ1 H0 H ws _ j1 r2 fun σ2 j2 k2 => k σ2 j2 fun m hm => ?_⟩
  rw [k2 m (fun z => hm (by simp [z])), k1 m (fun z => hm (by simp [z]))]
theorem dg_tup {is : List Nat} {es : List Expr} {ds : List D} {k1 : Nat} {n : Nat} (hc : X.calm = true) (h : DGs X is es ds ρ ρ') (hl : ds.length = n := by rfl) (hn : (assignEach es X.env).length = n := by rfl) (hst : (assignEach es X.env).findIdx? (·.1) = none := by rfl) :
    DG X is (.Tuple es k1 pos) (.tup ds) ρ ρ' := fun B0 B σ H0 H v Q j r k => by
  obtain ⟨p, vs, rfl, h1, h2⟩ := r
  exact ⟨_, pg_tup hc pgs_star hn hst, p, vs, rfl, Same.seqT j.same h1, by rw [← DRs.length h2]; exact hl, h B0 B σ H0 H vs Q j h2 k⟩

/-! ### what is walked -/
def DWalk (K : PySem.W.Frag) (Jt : It) (H0 : Hp) (ds : List D) : Prop := ∃ G Y, Walk Jt ds.length G Y ∧ (∀ H1 H, Same H0 H1 → Same H1 H → G H) ∧
  ∀ i H1 H x H' d, ds[i]? = some d → Same H0 H1 → Same H1 H → Y i H x H' → ∃ H1', JH H1 H H1' H' ∧ DR K H1' d x
def ID (X : Cx) (ρ : En) (tg iter : Expr) (ds : List D) : Prop := ∀ B0 B σ H0 H R, J X.K B0 B σ H0 H ρ → (∀ Jt H0' H', JH H0 H H0' H' → DWalk X.K Jt H0' ds → R Jt H') → RI X tg iter σ H R
theorem dw_list {K : PySem.W.Frag} {H0 : Hp} {p : Addr} {vs : List V} {ds : List D} (h : SqL K H0 p vs) (r : DRs K H0 ds vs) : DWalk K (Itl K p) H0 ds := by
  refine ⟨_, _, (by rw [DRs.length r]; exact walk_list (xs := vs)), fun H1 H s1 s2 => (s1.trans s2).seq h, fun i H1 H x H' d hd s1 s2 y => ?_⟩
  obtain ⟨rfl, hx⟩ := y
  obtain ⟨v, h1, h2⟩ := DRs.get r hd
  rw [hx] at h1; cases h1
  exact ⟨H1, JH.refl s2, DR.mono s1 _ _ h2⟩
theorem dw_tup {K : PySem.W.Frag} {H0 : Hp} {p : Addr} {vs : List V} {ds : List D} (h : SqT K H0 p vs) (r : DRs K H0 ds vs) : DWalk K (Itt K p) H0 ds := by
  refine ⟨_, _, (by rw [DRs.length r]; exact walk_tup (xs := vs)), fun H1 H s1 s2 => Same.seqT (s1.trans s2) h, fun i H1 H x H' d hd s1 s2 y => ?_⟩
  obtain ⟨rfl, hx⟩ := y
  obtain ⟨v, h1, h2⟩ := DRs.get r hd
  rw [hx] at h1; cases h1
  exact ⟨H1, JH.refl s2, DR.mono s1 _ _ h2⟩
/-- lo, lo + 1, .. -/
def rngD (lo : Int) (n : Nat) : List D := (List.range n).map fun (i : Nat) => D.int (lo + (i : Int))
theorem rngD_len (lo : Int) (n : Nat) : (rngD lo n).length = n := by simp [rngD]
theorem rngD_get {lo : Int} {n i : Nat} {d : D} (h : (rngD lo n)[i]? = some d) : i < n ∧ d = .int (lo + i) := by
  have hi : i < n := by have := (List.getElem?_eq_some_iff.mp h).1; rwa [rngD_len] at this
  refine ⟨hi, ?_⟩
  simp [rngD, List.getElem?_map, List.getElem?_range hi] at h
  exact h.symm
theorem dw_range {K : PySem.W.Frag} {H0 : Hp} {lo : Int} {n : Nat} : DWalk K (Itr lo n) H0 (rngD lo n) := by
  refine ⟨_, _, (by rw [rngD_len]; exact walk_range), fun _ _ _ _ => trivial, fun i H1 H x H' d hd s1 s2 y => ?_⟩
  obtain ⟨rfl, rfl⟩ := y
  obtain ⟨_, rfl⟩ := rngD_get hd
  exact ⟨H1, JH.refl s2, rfl⟩
theorem dw_pair {K : PySem.W.Frag} {Jt : It} {H0 : Hp} {n : Nat} {G : Hp → Prop} {xs ys : Nat → Option V} {ds : List D} {f g : Nat → Option D} (w : Walk Jt n G (YPair xs ys)) (hn : n = ds.length) (hG : ∀ H1 H, Same H0 H1 → Same H1 H → G H)
    (hd : ∀ i d, ds[i]? = some d → ∃ d1 d2, d = .tup [d1, d2] ∧ (∀ v, xs i = some v → DR K H0 d1 v) ∧ ∀ v, ys i = some v → DR K H0 d2 v) : DWalk K Jt H0 ds := by
  subst hn
  refine ⟨_, _, w, hG, fun i H1 H x H' d h s1 s2 y => ?_⟩
  obtain ⟨T, v1, v2, rfl, hT, rfl, hx, hy⟩ := y
  obtain ⟨d1, d2, rfl, q1, q2⟩ := hd i d h
  have g := JH.new (o := .tup [v1, v2]) s2 hT
  exact ⟨_, g, T, [v1, v2], rfl, SqT.of upd_same, v1, [v2], rfl, DR.mono (s1.trans g.s0) _ _ (q1 v1 hx), v2, [], rfl, DR.mono (s1.trans g.s0) _ _ (q2 v2 hy), rfl⟩
theorem id_list {ds : List D} {tg : Expr} (h : ED X ρ e (.lst ds)) : ID X ρ tg e ds := fun B0 B σ H0 H R j k =>
  ⟨_, pi_list pe_star, h B0 B σ H0 H _ j fun v G0 G g r => by
    obtain ⟨p, vs, rfl, h1, h2⟩ := r
    exact ⟨p, rfl, ⟨vs, g.sh.seq h1⟩, k _ G0 G g (dw_list h1 h2)⟩⟩
theorem id_tup {ds : List D} {tg : Expr} (h : ED X ρ e (.tup ds)) : ID X ρ tg e ds := fun B0 B σ H0 H R j k =>
  ⟨_, pi_tup pe_star, h B0 B σ H0 H _ j fun v G0 G g r => by
    obtain ⟨p, vs, rfl, h1, h2⟩ := r
    exact ⟨p, rfl, ⟨vs, Same.seqT g.sh h1⟩, k _ G0 G g (dw_tup h1 h2)⟩⟩
theorem id_range1 {tg : Expr} {p : Pos} {i : Int} (hg : Gl X "range") (hm : X.mg "range" = none) (ha : ED X ρ a (.int i)) (hb : -(2 ^ 62) ≤ i ∧ i < 2 ^ 62) (hs : starEach [a] X.env = [(false, eval a X.env)] := by rfl) (hs2 : starEach [a] X.env = (false, eval a X.env) :: starEach [] X.env := by rfl) :
    ID X ρ tg (.Call (.Name "range" p) [a] [] pos) (rngD 0 i.toNat) := fun B0 B σ H0 H R j k =>
  ⟨_, pi_range1 hg hm pa_star hs, ad_cons (X := X) ha ad_nil hs2 B0 B σ H0 H _ j fun vs G0 G g r => by
    obtain ⟨x, rfl, h⟩ := r.one'
    cases (show x = .int i from h)
    exact ⟨i, rfl, hb.1, hb.2, k _ G0 G g dw_range⟩⟩
theorem id_range2 {tg : Expr} {p : Pos} {i i' : Int} (hg : Gl X "range") (hm : X.mg "range" = none) (ha : ED X ρ a (.int i)) (hb : ED X ρ b (.int i')) (hbd : -(2 ^ 62) ≤ i ∧ i < 2 ^ 62 ∧ -(2 ^ 62) ≤ i' ∧ i' < 2 ^ 62)
    (hs : starEach [a, b] X.env = [(false, eval a X.env), (false, eval b X.env)] := by rfl) (hs2 : starEach [b] X.env = [(false, eval b X.env)] := by rfl) (hs3 : starEach [a, b] X.env = (false, eval a X.env) :: starEach [b] X.env := by rfl) (hs4 : starEach [b] X.env = (false, eval b X.env) :: starEach [] X.env := by rfl) :
    ID X ρ tg (.Call (.Name "range" p) [a, b] [] pos) (rngD i (i' - i).toNat) := fun B0 B σ H0 H R j k =>
  ⟨_, pi_range2 hg hm pa_star hs hs2, ad_cons (X := X) ha (ad_cons hb ad_nil hs4) hs3 B0 B σ H0 H _ j fun vs G0 G g r => by
    obtain ⟨x, y, rfl, h, h'⟩ := r.two
    cases (show x = .int i from h); cases (show y = .int i' from h')
    exact ⟨i, i', rfl, hbd, k _ G0 G g dw_range⟩⟩
/-- numbered from 0 -/
def enumD (ds : List D) : List D := (List.range ds.length).zipWith (fun i d => D.tup [.int (i : Nat), d]) ds
theorem enum_len (ds : List D) : (enumD ds).length = ds.length := by simp [enumD]
theorem enum_get {ds : List D} {i : Nat} {d : D} (h : (enumD ds)[i]? = some d) : ∃ d', ds[i]? = some d' ∧ d = .tup [.int (i : Nat), d'] := by
  have hi : i < ds.length := by have := (List.getElem?_eq_some_iff.mp h).1; rwa [enum_len] at this
  refine ⟨ds[i], by simp [hi], ?_⟩
  simp [enumD, List.getElem?_zipWith, List.getElem?_range hi, hi] at h
  exact h.symm
theorem id_enum {ds : List D} {elts : List Expr} {kk : Nat} {tpos p : Pos} (hg : Gl X "enumerate") (hm : X.mg "enumerate" = none) (ha : ED X ρ a (.lst ds)) (hs : starEach [a] X.env = [(false, eval a X.env)] := by rfl) (hs2 : starEach [a] X.env = (false, eval a X.env) :: starEach [] X.env := by rfl) :
    ID X ρ (.Tuple elts kk tpos) (.Call (.Name "enumerate" p) [a] [] pos) (enumD ds) := fun B0 B σ H0 H R j k =>
  ⟨_, pi_enum hg hm pa_star hs, ad_cons (X := X) ha ad_nil hs2 B0 B σ H0 H _ j fun vs G0 G g r => by
    obtain ⟨x, rfl, q, ys, rfl, h1, h2⟩ := r.one'
    refine ⟨q, ys, rfl, g.sh.seq h1, k _ G0 G g (dw_pair (f := fun _ => none) (g := fun _ => none) walk_enum (by rw [enum_len, DRs.length h2]) (fun H1 H s1 s2 => (s1.trans s2).seq h1) fun i d hd => ?_)⟩
    obtain ⟨d', e1, rfl⟩ := enum_get hd
    obtain ⟨v, e2, e3⟩ := DRs.get h2 e1
    refine ⟨_, _, rfl, fun v hv => ?_, fun v' hv => ?_⟩
    · cases hv; rfl
    · rw [e2] at hv; cases hv; exact e3⟩
/-- pairs -/
def zipD (ds es : List D) : List D := ds.zipWith (fun d e => D.tup [d, e]) es
theorem id_zip {ds es : List D} {elts : List Expr} {kk : Nat} {tpos p : Pos} (hg : Gl X "zip") (hm : X.mg "zip" = none) (ha : ED X ρ a (.lst ds)) (hb : ED X ρ b (.lst es))
    (hs : starEach [a, b] X.env = (false, eval a X.env) :: starEach [b] X.env := by rfl) (hpl : (backTo pos (starEach [b] X.env)).any (·.1) = false := by rfl) (hs4 : starEach [b] X.env = (false, eval b X.env) :: starEach [] X.env := by rfl) :
    ID X ρ (.Tuple elts kk tpos) (.Call (.Name "zip" p) [a, b] [] pos) (zipD ds es) := fun B0 B σ H0 H R j k =>
  ⟨_, pi_zip hg hm pa_star hs hpl, ad_cons (X := X) ha (ad_cons hb ad_nil hs4) hs B0 B σ H0 H _ j fun vs G0 G g r => by
    obtain ⟨x, y, rfl, ⟨q, ys, rfl, h1, h2⟩, q', ys', rfl, h1', h2'⟩ := r.two
    refine ⟨q, q', ys, ys', rfl, g.sh.seq h1, g.sh.seq h1', k _ G0 G g (dw_pair (f := fun _ => none) (g := fun _ => none) (walk_zip rfl) (by rw [zipD, List.length_zipWith, DRs.length h2, DRs.length h2']) (fun H1 H s1 s2 => ⟨(s1.trans s2).seq h1, (s1.trans s2).seq h1'⟩) fun i d hd => ?_)⟩
    rw [zipD, List.getElem?_zipWith] at hd
    cases e1 : ds[i]? with
    | none => rw [e1] at hd; simp at hd
    | some d1 =>
      cases e2 : es[i]? with
      | none => rw [e1, e2] at hd; simp at hd
      | some d2 =>
        rw [e1, e2] at hd
        obtain ⟨v1, f1, f2⟩ := DRs.get h2 e1
        obtain ⟨v2, f3, f4⟩ := DRs.get h2' e2
        refine ⟨d1, d2, (Option.some.inj hd).symm, fun v hv => ?_, fun v hv => ?_⟩
        · rw [f1] at hv; cases hv; exact f2
        · rw [f3] at hv; cases hv; exact f4⟩

/-! ### comprehensions -/
def wipeE (ρ : En) : List Nat → En
  | [] => ρ
  | v :: vs => (wipeE ρ vs).set v .no
theorem J.setNo {K : PySem.W.Frag} {B0 B H0 H : Hp} {σ : St} {ρ : En} (j : J K B0 B σ H0 H ρ) (i : Nat) : J K B0 B (σ.set i none) H0 H (ρ.set i .no) := j.setTo (s := .no) True.intro fun a w => w.elim
theorem J.wipe {K : PySem.W.Frag} {B0 B H0 H : Hp} {σ : St} {ρ : En} (j : J K B0 B σ H0 H ρ) : ∀ vs : List Nat, J K B0 B (wipe σ vs) H0 H (wipeE ρ vs)
  | [] => j
  | v :: vs => (J.wipe j vs).setNo v
theorem wipe_at {σ : St} {i : Nat} : ∀ {vs : List Nat}, i ∈ vs → i < σ.length → (wipe σ vs)[i]? = some none
  | v :: vs, h, hl => by
    unfold wipe
    by_cases e : v = i
    · subst e
      rw [List.getElem?_set_self (by rw [wipe_length]; exact hl)]
    · rw [List.getElem?_set_ne e]
      exact wipe_at (by simpa [Ne.symm e] using h) hl
theorem wipe_back {σ σ2 : St} {vs : List Nat} (hl : σ2.length = σ.length) (h : ∀ k, k ∉ vs → σ2[k]? = (wipe σ vs)[k]?) : wipe σ2 vs = wipe σ vs := by
  refine List.ext_getElem? fun k => ?_
  by_cases hk : k ∈ vs
  · by_cases hb : k < σ.length
    · rw [wipe_at hk (by omega), wipe_at hk hb]
    · rw [List.getElem?_eq_none (by rw [wipe_length]; omega), List.getElem?_eq_none (by rw [wipe_length]; omega)]
  · rw [wipe_out hk, h k hk]
def RTs (X : Cx) (ifs : List Expr) : TT := fun σ H Q => ∃ t, PTs X ifs t ∧ t σ H Q
def TDs (X : Cx) (ρ : En) (ifs : List Expr) (b : Bool) : Prop := ∀ B0 B σ H0 H (Q : Bool → Hp → Prop), J X.K B0 B σ H0 H ρ → (∀ H0' H', JH H0 H H0' H' → Q b H') → RTs X ifs σ H Q
theorem tds_nil : TDs X ρ [] true := fun B0 B σ H0 H Q j k => ⟨_, pts_nil, k H0 H (JH.refl j.same)⟩
theorem tds_one {k : Bool} (h : TD X ρ c k) : TDs X ρ [c] k := fun B0 B σ H0 H Q j kk => ⟨_, pts_one pt_star, h B0 B σ H0 H _ j kk⟩
theorem filterMap_take {α β : Type} (g : α → Option β) (ds : List α) (i : Nat) (d : α) (h : ds[i]? = some d) : (ds.take (i + 1)).filterMap g = (ds.take i).filterMap g ++ (g d).toList := by
  rw [List.take_add_one, h, List.filterMap_append]
  cases q : g d <;> simp [List.filterMap_cons, q]
theorem filterMap_len {α β : Type} (g : α → Option β) (ds : List α) (i : Nat) : ((ds.take i).filterMap g).length ≤ i := by
  refine Nat.le_trans (List.length_filterMap_le _ _) ?_
  simp; omega
section
variable {elt tg iter : Expr} {ifs : List Expr} {scope : Scope} {own : List (Str × Nat)} {ds : List D}
/-- one turn of a comprehension, in every block that may be -/
def Turn1 (X : Cx) (ρ : En) (scope : Scope) (vs : List Nat) (tg elt : Expr) (ifs : List Expr) (d : D) (y : Option D) : Prop :=
  ∃ ρ' : En, ρ'.length = ρ.length ∧ ∀ (s : Shared) (H : Hp) (C : Addr) (cl : List (Str × Addr)) (fp : List Addr), DG (X.blk s H scope (compEnvC scope cl C X.env) fp) vs tg d (wipeE ρ vs) ρ' ∧
    (match y with
    | some z => TDs (X.blk s H scope (compEnvC scope cl C X.env) fp) ρ' ifs true ∧ ED (X.blk s H scope (compEnvC scope cl C X.env) fp) ρ' elt z
    | none => TDs (X.blk s H scope (compEnvC scope cl C X.env) fp) ρ' ifs false)
def GB (X : Cx) (scope : Scope) (tg : Expr) : TG := fun v σ H Q => ∀ (s : Shared) (H' : Hp) (C : Addr) (cl : List (Str × Addr)) (fp : List Addr), RG (X.blk s H' scope (compEnvC scope cl C X.env) fp) tg v σ H Q
def TB (X : Cx) (scope : Scope) (ifs : List Expr) : TT := fun σ H Q => ∀ (s : Shared) (H' : Hp) (C : Addr) (cl : List (Str × Addr)) (fp : List Addr), RTs (X.blk s H' scope (compEnvC scope cl C X.env) fp) ifs σ H Q
def EB (X : Cx) (scope : Scope) (elt : Expr) : TE := fun σ H Q => ∀ (s : Shared) (H' : Hp) (C : Addr) (cl : List (Str × Addr)) (fp : List Addr), RE (X.blk s H' scope (compEnvC scope cl C X.env) fp) elt σ H Q
def TLc (X : Cx) (scope : Scope) (own : List (Str × Nat)) (tg elt iter : Expr) (ifs : List Expr) : TE := tLc (RI X tg iter) (GB X scope tg) (TB X scope ifs) (EB X scope elt) (own.map (·.2))
theorem wipeE_length (ρ : En) : ∀ vs : List Nat, (wipeE ρ vs).length = ρ.length
  | [] => rfl
  | v :: vs => by unfold wipeE; rw [List.length_set, wipeE_length ρ vs]
theorem lc_read (hi : ID X ρ tg iter ds) (ys : List (Option D)) (hlen : ys.length = ds.length) (turn : ∀ (i : Nat) d y, ds[i]? = some d → ys[i]? = some y → Turn1 X ρ scope (own.map (·.2)) tg elt ifs d y) (hl : ds.length ≤ sizeLine) {B0 B : Hp} {σ : St} {H0 H : Hp} {Q : VK} (j : J X.K B0 B σ H0 H ρ)
    (k : ∀ a o H0' H', JH H0 H H0' H' → H' a = some o → H0' a = none → H a = none → OCR X.K H0' (.lst (ys.filterMap id)) o → Q (.ref a) H') : TLc X scope own tg elt iter ifs σ H Q := by
  refine hi B0 B σ H0 H _ j fun Jt G0 G g0 ⟨GG, Y, w, hG, hY⟩ => fun Dn hD => ?_
  have j0 := j.grow g0
  refine lc_it (g := GB X scope tg) (tt := TB X scope ifs) (te := EB X scope elt) (vs := own.map (·.2)) (Qd := fun H => Q (.ref Dn) H) w (fun i H1 => ∃ L0 acc, JH G0 G L0 H1 ∧ H1 Dn = some (.lst acc) ∧ L0 Dn = none ∧ DRs X.K L0 ((ys.take i).filterMap id) acc) ⟨G0, [], JH.own g0.sh hD, upd_same, g0.sh.free hD, rfl⟩ (fun i H1 _ ⟨L0, acc, g1, _⟩ => hG L0 H1 g1.s0 g1.sh) ?_ ?_
  · rintro i x H1 H1' hi ⟨L0, acc, g1, hDn, hD0, racc⟩ hy
    obtain ⟨d, hd⟩ : ∃ d, ds[i]? = some d := ⟨ds[i], by simp [hi]⟩
    obtain ⟨L1, g2, rx⟩ := hY i L0 H1 x H1' d hd g1.s0 g1.sh hy
    obtain ⟨yo, hyo⟩ : ∃ y, ys[i]? = some y := ⟨ys[i]'(by omega), by simp [show i < ys.length by omega]⟩
    obtain ⟨ρ', hlen', turn⟩ := turn i d yo hd hyo
    have j1 := ((j0.grow g1).grow g2).wipe (own.map (·.2))
    have hacc : acc.length < sizeLine := by
      have h1 := DRs.length racc
      have h2 := filterMap_len id ys i
      omega
    intro s Hs C cl fp
    refine (turn s Hs C cl fp).1 B0 B _ L1 H1' x _ j1 rx fun σ2 j2 off => ⟨wipe_back (by rw [j2.len, hlen', ← wipeE_length ρ (own.map (·.2)), ← j1.len, wipe_length]) off, ?_⟩
    have gg := g1.trans g2
    have hDn' : H1' Dn = some (.lst acc) := g2.sB _ _ hDn
    have hD0' : L1 Dn = none := g2.fr _ _ hDn trivial hD0
    have eT := filterMap_take id ys i yo hyo
    cases yo with
    | none =>
      intro s Hs C cl fp
      have t2 := (turn s Hs C cl fp).2
      refine t2 B0 B σ2 L1 H1' _ j2 fun M0 M g3 => iteF ⟨M0, acc, gg.trans g3, g3.sB _ _ hDn', g3.fr _ _ hDn' trivial hD0', ?_⟩
      rw [eT]
      simpa using DRs.mono (g2.trans g3).s0 _ _ racc
    | some z =>
      intro s Hs C cl fp
      have t2 := (turn s Hs C cl fp).2
      refine t2.1 B0 B σ2 L1 H1' _ j2 fun M0 M g3 => iteT fun s Hs C cl fp => ?_
      have t3 := (turn s Hs C cl fp).2
      refine t3.2 B0 B σ2 M0 M _ (j2.grow g3) fun y N0 N g4 ry => ?_
      have g34 := g3.trans g4
      have h4 : N Dn = some (.lst acc) := g34.sB _ _ hDn'
      have h40 : N0 Dn = none := g34.fr _ _ hDn' trivial hD0'
      have gl := gg.trans g34
      refine ⟨acc, h4, hacc, N0, acc ++ [y], ⟨gl.s0, fun b u e => upd_keep (gl.sh b u e) (ne_of_none e h40), fun b u e => upd_keep (gl.sB b u e) (ne_of_none e hD), gl.fr⟩, upd_same, h40, ?_⟩
      rw [eT]
      exact DRs.app (DRs.mono (g2.trans g34).s0 _ _ racc) (DRs.one ry)
  · rintro H1 ⟨L0, acc, g1, hDn, hD0, racc⟩
    rw [List.take_of_length_le (Nat.le_of_eq hlen)] at racc
    exact k Dn _ L0 H1 (g0.trans g1) hDn hD0 (g0.sB.free hD) ⟨acc, rfl, racc⟩
variable {cpos : Pos}
theorem eo_lc (own : List (Str × Nat)) (hc : X.calm = true) (hN : X.N.Nodup) (ok : BlkOk X.N X.env.scope scope own) (hi : ID X ρ tg iter ds) (ys : List (Option D)) (hlen : ys.length = ds.length) (turn : ∀ (i : Nat) d y, ds[i]? = some d → ys[i]? = some y → Turn1 X ρ scope (own.map (·.2)) tg elt ifs d y) (hl : ds.length ≤ sizeLine)
    (hs : ∀ x, foldedSetIterable iter X.env x = pure x := by intro _; rfl) : EO X ρ (.ListComp elt [⟨tg, iter, ifs, 0⟩] scope cpos) (.lst (ys.filterMap id)) := fun B0 B σ H0 H Q j k =>
  RE.of (pe_lc hc hN pi_star ok (g := GB X scope tg) (tt := TB X scope ifs) (te := EB X scope elt)
    (fun s H C cl fp => ⟨fun pins s1 σ1 H1 v u Q1 I r h => (pg_star (tg := tg)).run pins s1 σ1 H1 v u Q1 I r (h s H C cl fp)⟩)
    (fun s H C cl fp => ⟨fun pins s1 σ1 H1 Q1 I h => by obtain ⟨t, h1, h2⟩ := h s H C cl fp; exact h1.run pins s1 σ1 H1 Q1 I h2⟩)
    (fun s H C cl fp => ⟨fun pins s1 σ1 H1 Q1 I h => (pe_star (e := elt)).run pins s1 σ1 H1 Q1 I (h s H C cl fp)⟩) hs) (lc_read hi ys hlen turn hl j k)
end

/-! ### statements -/
inductive Out where
  | nx (ρ : En) | bk (ρ : En) | ct (ρ : En) | rt (d : D)
  /-- .. with what was its own -/
  | ro (c : OC)
  /-- .. with what it was lent -/
  | rc (d : D) (cs : List (Addr × OC))
def Post (K : PySem.W.Frag) (B0 B : Hp) (Dn : Ends) : Out → Prop
  | .nx ρ => ∀ σ H0 H, J K B0 B σ H0 H ρ → Dn.nx σ H
  | .bk ρ => ∀ σ H0 H, J K B0 B σ H0 H ρ → Dn.bk σ H
  | .ct ρ => ∀ σ H0 H, J K B0 B σ H0 H ρ → Dn.ct σ H
  | .rt d => ∀ v H0 H, JH B0 B H0 H → DR K H0 d v → Dn.rt v H
  | .ro c => ∀ a o H0 H, JH B0 B H0 H → H a = some o → H0 a = none → B a = none → OCR K H0 c o → Dn.rt (.ref a) H
  | .rc d cs => ∀ v H0 H, JH B0 B H0 H → (∀ p ∈ cs, CellR K B H0 H p.1 p.2) → (cs.map (·.1)).Nodup → DR K H0 d v → Dn.rt v H
def WS (X : Cx) (st : Stmt) (ρ : En) (Φ : Out → Prop) : Prop := ∀ B0 B σ H0 H Dn, J X.K B0 B σ H0 H ρ → (∀ o, Φ o → Post X.K B0 B Dn o) → RS X st Dn σ H
def WSs (X : Cx) (sts : List Stmt) (ρ : En) (Φ : Out → Prop) : Prop := ∀ B0 B σ H0 H Dn, J X.K B0 B σ H0 H ρ → (∀ o, Φ o → Post X.K B0 B Dn o) → RSs X sts Dn σ H
/-- what is wanted of a statement that others follow -/
def Then (X : Cx) (rest : List Stmt) (Φ : Out → Prop) : Out → Prop
  | .nx ρ => WSs X rest ρ Φ
  | o => Φ o
variable {st : Stmt} {rest : List Stmt} {Φ : Out → Prop}
theorem ws_nil (h : Φ (.nx ρ)) : WSs X [] ρ Φ := fun B0 B σ H0 H Dn j k => ⟨_, pss_nil, k _ h σ H0 H j⟩
theorem ws_cons (h : WS X st ρ (Then X rest Φ)) : WSs X (st :: rest) ρ Φ := fun B0 B σ H0 H Dn j k => by
  refine ⟨_, pss_cons ps_star pss_star, h B0 B σ H0 H _ j fun o ho => ?_⟩
  cases o with
  | nx ρ' => exact fun σ' H0' H' j' => ho B0 B σ' H0' H' Dn j' k
  | bk ρ' => exact k _ ho
  | ct ρ' => exact k _ ho
  | rt d => exact k _ ho
  | ro c => exact k _ ho
  | rc d cs => exact k _ ho
theorem ws_one (h : WS X st ρ Φ) : WSs X [st] ρ Φ := fun B0 B σ H0 H Dn j k => ⟨_, pss_one ps_star, h B0 B σ H0 H Dn j k⟩
theorem ws_mono {Ψ : Out → Prop} (h : WSs X rest ρ Ψ) (k : ∀ o, Ψ o → Φ o) : WSs X rest ρ Φ := fun B0 B σ H0 H Dn j kk => h B0 B σ H0 H Dn j fun o ho => kk o (k o ho)
/-- what a slot owns is given to all -/
theorem ws_share (i : Nat) {c : OC} (hi : ρ[i]? = some (.ow c)) (h : WSs X rest (ρ.set i (.sh c.d)) Φ) : WSs X rest ρ Φ := fun B0 B σ H0 H Dn j k => by
  obtain ⟨H0', j', _⟩ := j.share hi
  exact h B0 B σ H0' H Dn j' k
theorem ws_drop (i : Nat) (h : WSs X rest (ρ.set i .no) Φ) : WSs X rest ρ Φ := fun B0 B σ H0 H Dn j k => h B0 B σ H0 H Dn (j.drop i) k
theorem ws_ret (h : ED X ρ e d) (hΦ : Φ (.rt d)) : WS X (.Return (some e) pos) ρ Φ := fun B0 B σ H0 H Dn j k =>
  ⟨_, ps_ret pe_star, h B0 B σ H0 H _ j fun v H0' H' g r => k _ hΦ v H0' H' (j.hp.trans g) r⟩
theorem ws_retO (i : Nat) {x : Str} {p1 : Pos} {c : OC} (hi : ρ[i]? = some (.ow c)) (hΦ : Φ (.ro c)) (hN : X.N[i]? = some x := by rfl) (hv : Vis X.env.scope x := by first | exact Or.inl rfl | exact Or.inr (Or.inl rfl) | exact Or.inr (Or.inr rfl)) (hd : (x == ("__debug__" : Str)) = false := by decide)
    (hcd : (x == ("__classdict__" : Str)) = false := by decide) : WS X (.Return (some (.Name x p1)) pos) ρ Φ := fun B0 B σ H0 H Dn j k => by
  obtain ⟨ov, e1, a, o, rfl, h1, h2, h3, h4⟩ := j.get hi
  exact ⟨_, ps_ret (pe_var hN hv hd hcd), .ref a, e1, k _ hΦ a o H0 H j.hp h1 h2 h3 h4⟩
theorem ws_retN (hΦ : Φ (.rt .non)) : WS X (.Return none pos) ρ Φ := fun B0 B σ H0 H Dn j k => ⟨_, ps_retN, k _ hΦ .non H0 H j.hp rfl⟩
theorem ws_pass (hΦ : Φ (.nx ρ)) : WS X (.Pass pos) ρ Φ := fun B0 B σ H0 H Dn j k => ⟨_, ps_pass, k _ hΦ σ H0 H j⟩
theorem ws_break (hΦ : Φ (.bk ρ)) : WS X (.Break pos) ρ Φ := fun B0 B σ H0 H Dn j k => ⟨_, ps_break, k _ hΦ σ H0 H j⟩
theorem ws_continue (hΦ : Φ (.ct ρ)) : WS X (.Continue pos) ρ Φ := fun B0 B σ H0 H Dn j k => ⟨_, ps_continue, k _ hΦ σ H0 H j⟩
theorem ws_doc {x j pos'} (hΦ : Φ (.nx ρ)) : WS X (.Expr (.Constant (.str x) j pos) pos') ρ Φ := fun B0 B σ H0 H Dn j k => ⟨_, ps_doc, k _ hΦ σ H0 H j⟩
theorem ws_if {k : Bool} {sa sb : List Stmt} (hc : TD X ρ c k) (h1 : k = true → WSs X sa ρ Φ) (h2 : k = false → WSs X sb ρ Φ) : WS X (.If c sa sb pos) ρ Φ := fun B0 B σ H0 H Dn j kk => by
  refine ⟨_, ps_if pt_star pss_star pss_star, hc B0 B σ H0 H _ j fun H0' H' g => ?_⟩
  cases k with
  | true => exact iteT (h1 rfl B0 B σ H0' H' Dn (j.grow g) kk)
  | false => exact iteF (h2 rfl B0 B σ H0' H' Dn (j.grow g) kk)
theorem ws_set (i : Nat) {x : Str} {pos' : Pos} (hN : X.N.Nodup) (he : ED X ρ e d) (hΦ : Φ (.nx (ρ.set i (.sh d)))) (hi : X.N[i]? = some x := by rfl) (hx : Loc X.env.scope x := by first | exact Or.inl rfl | exact Or.inr rfl)
    (hs : swapsWith e (some (.Name x pos')) pos.line X.env = pure false := by rfl) (hf : X.fn x = true ∨ X.env.scope.names.lookup x = some .local := by first | exact .inl rfl | exact .inr rfl) : WS X (.Assign [.Name x pos'] e pos) ρ Φ := fun B0 B σ H0 H Dn j k =>
  ⟨_, ps_set hN hi hx pe_star hs hf, he B0 B σ H0 H _ j fun v H0' H' g r => k _ hΦ _ H0' H' ((j.grow g).setSh r)⟩
theorem J.setNew {K : PySem.W.Frag} {B0 B H0 H H0' H' : Hp} {σ : St} {ρ : En} (j : J K B0 B σ H0 H ρ) (g : JH H0 H H0' H') {i : Nat} {c : OC} {a : Addr} {o : HO} (h : H' a = some o) (h0 : H0' a = none) (n : H a = none) (r : OCR K H0' c o) :
    J K B0 B (σ.set i (some (.ref a))) H0' H' (ρ.set i (.ow c)) :=
  (j.grow g).setOwn h h0 (j.hp.sB.free n) (fun m s ov _ hm hs w => by
    obtain ⟨o', h1, _⟩ := j.own hm hs w
    rw [n] at h1; cases h1) r
theorem ws_setO (i : Nat) {x : Str} {c : OC} {pos' : Pos} (hN : X.N.Nodup) (he : EO X ρ e c) (hΦ : Φ (.nx (ρ.set i (.ow c)))) (hi : X.N[i]? = some x := by rfl) (hx : Loc X.env.scope x := by first | exact Or.inl rfl | exact Or.inr rfl)
    (hs : swapsWith e (some (.Name x pos')) pos.line X.env = pure false := by rfl) (hf : X.fn x = true ∨ X.env.scope.names.lookup x = some .local := by first | exact .inl rfl | exact .inr rfl) : WS X (.Assign [.Name x pos'] e pos) ρ Φ := fun B0 B σ H0 H Dn j k =>
  ⟨_, ps_set hN hi hx pe_star hs hf, he B0 B σ H0 H _ j fun a o H0' H' g h1 h2 h3 r => k _ hΦ _ H0' H' (j.setNew g h1 h2 h3 r)⟩
section
variable {elt tg iter : Expr} {ifs : List Expr} {scope : Scope} {ds : List D} {cpos : Pos}
/-- y = [.. for ..], y a local of the def's own on the same line -/
theorem ws_setLc (i : Nat) (own : List (Str × Nat)) {y : Str} {py : Pos} (hc : X.calm = true) (hN : X.N.Nodup) (ok : BlkOk X.N X.env.scope scope own) (hi : ID X ρ tg iter ds) (ys : List (Option D)) (hlen : ys.length = ds.length) (turn : ∀ (i : Nat) d y, ds[i]? = some d → ys[i]? = some y → Turn1 X ρ scope (own.map (·.2)) tg elt ifs d y) (hl : ds.length ≤ sizeLine)
    (hΦ : Φ (.nx (ρ.set i (.ow (.lst (ys.filterMap id)))))) (hy : X.N[i]? = some y := by rfl) (hyl : X.env.scope.names.lookup y = some .local := by rfl)
    (hsw : swapsWith (.ListComp elt [⟨tg, iter, ifs, 0⟩] scope cpos) (some (.Name y py)) pos.line X.env = pure true := by exact sw_true rfl rfl rfl (by decide +kernel)) (hs : ∀ x, foldedSetIterable iter X.env x = pure x := by intro _; rfl) :
    WS X (.Assign [.Name y py] (.ListComp elt [⟨tg, iter, ifs, 0⟩] scope cpos) pos) ρ Φ := fun B0 B σ H0 H Dn j k =>
  ⟨_, ps_setLc hc hN hy hyl hsw pi_star ok (g := GB X scope tg) (tt := TB X scope ifs) (te := EB X scope elt)
    (fun s H C cl fp => ⟨fun pins s1 σ1 H1 v u Q1 I r h => (pg_star (tg := tg)).run pins s1 σ1 H1 v u Q1 I r (h s H C cl fp)⟩)
    (fun s H C cl fp => ⟨fun pins s1 σ1 H1 Q1 I h => by obtain ⟨t, h1, h2⟩ := h s H C cl fp; exact h1.run pins s1 σ1 H1 Q1 I h2⟩)
    (fun s H C cl fp => ⟨fun pins s1 σ1 H1 Q1 I h => (pe_star (e := elt)).run pins s1 σ1 H1 Q1 I (h s H C cl fp)⟩) hs,
   lc_read hi ys hlen turn hl j fun a o H0' H' gg h1 h2 h3 r => k _ hΦ _ H0' H' (j.setNew gg h1 h2 h3 r)⟩
end
/-- a, b, .. = e -/
theorem ws_unpack {tg : Expr} {is : List Nat} (he : ED X ρ e d) (hg : DG X is tg d ρ ρ') (hΦ : Φ (.nx ρ')) (hs : swapsWithSole [tg] e pos.line X.env = pure false := by rfl) (hw : swappedStores [tg] e X.env = pure none := by rfl)
    (h1 : (assignEach [tg] X.env).map (·.2) = [assign tg X.env] := by rfl) : WS X (.Assign [tg] e pos) ρ Φ := fun B0 B σ H0 H Dn j k =>
  ⟨_, ps_asg pe_star pg_star hs hw h1, he B0 B σ H0 H _ j fun v H0' H' g r => hg B0 B σ H0' H' v _ (j.grow g) r fun σ' j' _ => k _ hΦ σ' H0' H' j'⟩
/-- xs.append(e), xs a list of the def's own -/
theorem ws_append (i : Nat) {x : Str} {p1 p2 p3 : Pos} {ds : List D} (hi : ρ[i]? = some (.ow (.lst ds))) (he : ED X ρ e d) (hl : ds.length < sizeLine) (hΦ : Φ (.nx (ρ.set i (.ow (.lst (ds ++ [d]))))))
    (hpe : ∀ {ta : TA}, PA X [e] ta → PS X (.Expr (.Call (.Attribute (.Name x p1) "append" p2) [e] [] p3) pos) (tDrop (tBM X.K "list" rAppend (tVar i) ta))) (hs : starEach [e] X.env = (false, eval e X.env) :: starEach [] X.env := by rfl) :
    WS X (.Expr (.Call (.Attribute (.Name x p1) "append" p2) [e] [] p3) pos) ρ Φ := fun B0 B σ H0 H Dn j k => by
  obtain ⟨ov, e1, a, o, rfl, h1, h2, h3, vs, rfl, r⟩ := j.get hi
  refine ⟨_, hpe pa_star, .ref a, e1, Or.inl ⟨rfl, _, Or.inl (Or.inl h1)⟩, ad_cons (X := X) he ad_nil hs B0 B σ H0 H _ j fun ws G0 G g rr => ?_⟩
  obtain ⟨y, rfl, ry⟩ := rr.one'
  have j1 := j.grow g
  obtain ⟨ov', e1', a', o', e2, h1', _, _, vs', rfl, r'⟩ := j1.get hi
  rw [e1] at e1'; cases e1'; cases e2
  refine ⟨a, vs', y, rfl, rfl, h1', by rw [← DRs.length r']; exact hl, ?_⟩
  exact k _ hΦ _ G0 _ (j1.write hi e1 ⟨_, rfl, DRs.app r' (DRs.one ry)⟩)
/-- for: I by the turn and the slots -/
theorem ws_for {tg iter : Expr} {body : List Stmt} {ds : List D} (hc : X.calm = true) (hi : ID X ρ tg iter ds) (I : Nat → En → Prop) (h0 : I 0 ρ)
    (hs : ∀ i d ρ', ds[i]? = some d → I i ρ' → ∃ is ρ'', DG X is tg d ρ' ρ'' ∧ WSs X body ρ'' (fun o => match o with | .nx r => I (i + 1) r | .ct r => I (i + 1) r | .bk r => Φ (.nx r) | .rt v => Φ (.rt v) | .ro c => Φ (.ro c) | .rc v cs => Φ (.rc v cs))) (hd : ∀ ρ', I ds.length ρ' → Φ (.nx ρ'))
    (hp : PassesOwn (model X.prog X.w) X.A X.env X.xe := by exact PassesOwn.never) (hf : ∀ x, foldedSetIterable iter X.env x = pure x := by intro _; rfl) : WS X (.For tg iter body [] pos) ρ Φ := fun B0 B σ H0 H Dn j k => by
  refine ⟨_, ps_for hp hc pi_star pg_star pss_star hf, hi B0 B σ H0 H _ j fun Jt G0 G g0 ⟨GG, Y, w, hG, hY⟩ => ?_⟩
  have j0 := j.grow g0
  refine for_it w (fun i σ' H1 => ∃ ρ' L0, I i ρ' ∧ J X.K G0 B σ' L0 H1 ρ') ⟨ρ, G0, h0, j0.rebase⟩ (fun i σ' H1 _ ⟨ρ', L0, _, j1⟩ => hG L0 H1 j1.hp.s0 j1.hp.sh) ?_ ?_
  · rintro i x σ1 H1 H1' hi ⟨ρ1, L0, hI, j1⟩ hy
    obtain ⟨d, hd'⟩ : ∃ d, ds[i]? = some d := ⟨ds[i], by simp [hi]⟩
    obtain ⟨L1, g2, rx⟩ := hY i L0 H1 x H1' d hd' j1.hp.s0 j1.hp.sh hy
    obtain ⟨is, ρ2, hg, hb⟩ := hs i d ρ1 hd' hI
    refine hg G0 B σ1 L1 H1' x _ (j1.grow g2) rx fun σ2 j2 _ => ?_
    refine hb G0 B σ2 L1 H1' _ j2 fun o ho => ?_
    cases o with
    | nx r => exact fun σ3 M0 M j3 => ⟨r, M0, ho, j3⟩
    | ct r => exact fun σ3 M0 M j3 => ⟨r, M0, ho, j3⟩
    | bk r => exact fun σ3 M0 M j3 => k _ ho σ3 M0 M (j0.unbase j3)
    | rt v => exact fun v' M0 M g r => k _ ho v' M0 M ⟨j0.hp.s0.trans g.s0, g.sh, g.sB, fun b u e n e' => g.fr b u e n (j0.hp.fr b u e n e')⟩ r
    | ro c => exact fun a o M0 M g h1 h2 h3 r => k _ ho a o M0 M ⟨j0.hp.s0.trans g.s0, g.sh, g.sB, fun b u e n e' => g.fr b u e n (j0.hp.fr b u e n e')⟩ h1 h2 h3 r
    | rc v cs => exact fun a M0 M g h1 h2 r => k _ ho a M0 M ⟨j0.hp.s0.trans g.s0, g.sh, g.sB, fun b u e n e' => g.fr b u e n (j0.hp.fr b u e n e')⟩ h1 h2 r
  · rintro σ1 H1 ⟨ρ1, L0, hI, j1⟩
    exact k _ (hd ρ1 hI) σ1 L0 H1 (j0.unbase j1)
end
end DL

/-! Defs by data; items by kind. -/
namespace DL
open PySem PySem.Spec PyProof.Rows L2

def en (N : List Str) (ds : List D) : En := ds.map Sl.sh ++ List.replicate (N.length - ds.length) Sl.no
section
variable {P : Program} {w : World} {K : PySem.W.Frag} {mg : Str → Option Value} {base : Heap}
theorem en_kind {N : List Str} {ds : List D} {i : Nat} {s : Sl} (h : (en N ds)[i]? = some s) : s = .no ∨ ∃ d, s = .sh d := by
  unfold en at h
  by_cases hi : i < ds.length
  · rw [List.getElem?_append_left (by simpa using hi), List.getElem?_map, show ds[i]? = some ds[i] by simp [hi]] at h
    cases h; exact .inr ⟨_, rfl⟩
  · rw [List.getElem?_append_right (by simp; omega), List.getElem?_replicate] at h
    split at h
    · cases h; exact .inl rfl
    · cases h
theorem j_start {N : List Str} {H0 H : Hp} {ds : List D} {vs : List V} (s : Same H0 H) (r : DRs K H0 ds vs) (hl : ds.length ≤ N.length) : J K H0 H (L2.start N vs) H0 H (en N ds) := by
  have hlen := DRs.length r
  refine ⟨JH.refl s, by simp [L2.start, en, hlen], fun i sl ov h1 h2 => ?_, fun i j s1 s2 o1 o2 a h1 _ _ _ w _ => absurd w (Owns.none (en_kind h1) a)⟩
  unfold en at h1
  unfold L2.start at h2
  by_cases hi : i < ds.length
  · rw [List.getElem?_append_left (by simpa using hi), List.getElem?_map] at h1
    rw [List.getElem?_append_left (by simp; omega), List.getElem?_map] at h2
    obtain ⟨v, e1, e2⟩ := DRs.get r (show ds[i]? = some ds[i] by simp [hi])
    rw [show ds[i]? = some ds[i] by simp [hi]] at h1
    rw [e1] at h2
    cases h1; cases h2
    exact ⟨v, rfl, e2⟩
  · rw [List.getElem?_append_right (by simp; omega), List.getElem?_replicate] at h1
    split at h1
    · cases h1; trivial
    · cases h1
/-- the context of a def's body -/
abbrev bx (P : Program) (w : World) (K : PySem.W.Frag) (mg : Str → Option Value) (base : Heap) (N : List Str) (qual : Str) (st : Stmt) (f : Addr) (cdv : Value) (A : Around) (outer : List Env) (s : Shared) (H : Hp) (E : XK) : Cx :=
  (cxOf CX0 P w K mg base N qual (defScope st) f cdv A outer s H E).nox
theorem fn_ok {x qual : Str} {st : Stmt} {f : Addr} {fd : FuncData} {N ps : List Str} {k : Nat} {R : List D → D → Prop} (F : Fun K x qual st f fd) (S : FnScope N ps (defScope st)) (hR : ∀ ds d, R ds d → ds.length = ps.length)
    (h : ∀ ds d, R ds d → ∀ (cdv : Value) (A : Around) (outer : List Env) (s : Shared) (H : Hp) (E : XK), Room k (A.deeper (envOfC qual (defScope st) s.heap.objs.size f cdv)) →
      WSs (bx P w K mg base N qual st f cdv A outer s H E) (defBody st) (en N ds) (fun o => o = .rt d ∨ (∃ ρ, o = .nx ρ ∧ d = .non))) : FnOk P w K mg base CX0 (k + 1) f fd ps (spR K R) := by
  refine F.ok S (fun vs H Q E hs => ?_) fun cdv A outer s H vs Q E hr hs => ?_
  · obtain ⟨H0, ds, d, _, r, q, _⟩ := hs
    rw [← DRs.length r]; exact hR ds d q
  · obtain ⟨H0, ds, d, s0, r, q, kk⟩ := hs
    have hN : ds.length ≤ N.length := by
      have h1 := hR ds d q
      have h2 := congrArg List.length S.pre
      rw [List.length_take] at h2
      omega
    obtain ⟨t, h1, h2⟩ := h ds d q cdv A outer s H E hr H0 H (L2.start N vs) H0 H (j_start s0 r hN) (Dn := { nx := fun _ H' => Q .non H', rt := Q }) fun o ho => by
      rcases ho with rfl | ⟨ρ, rfl, rfl⟩
      · exact fun v G0 G g rv => kk v G0 G g rv
      · exact fun σ G0 G j => kk .non G0 G j.hp rfl
    exact ⟨t, h1, h2⟩
theorem fn_mk {x qual : Str} {st : Stmt} {f : Addr} {fd : FuncData} {N ps : List Str} {k : Nat} {R : List D → D → Prop} (F : Fun K x qual st f fd) (hm : mg x = some (.ref f)) (hb : Binds K fd ps []) (S : FnScope N ps (defScope st)) (hR : ∀ ds d, R ds d → ds.length = ps.length)
    (h : ∀ ds d, R ds d → ∀ (cdv : Value) (A : Around) (outer : List Env) (s : Shared) (H : Hp) (E : XK), Room k (A.deeper (envOfC qual (defScope st) s.heap.objs.size f cdv)) →
      WSs (bx P w K mg base N qual st f cdv A outer s H E) (defBody st) (en N ds) (fun o => o = .rt d ∨ (∃ ρ, o = .nx ρ ∧ d = .non))) : Fn P w K mg base x (k + 1) R :=
  ⟨⟨f, fd, ps, fn_ok F S hR h, hm, F.kp, hb⟩⟩
/-- a def that gives a new thing of its own -/
def spO (K : PySem.W.Frag) (R : List D → OC → Prop) : Sp := fun vs H Q _ => ∃ H0 ds c, Same H0 H ∧ DRs K H0 ds vs ∧ R ds c ∧ ∀ a o H0' H', JH H0 H H0' H' → H' a = some o → H0' a = none → H a = none → OCR K H0' c o → Q (.ref a) H'
structure FnO (P : Program) (w : World) (K : PySem.W.Frag) (mg : Str → Option Value) (base : Heap) (x : Str) (k : Nat) (R : List D → OC → Prop) : Prop where
  ex : ∃ f fd ps, FnOk P w K mg base CX0 k f fd ps (spO K R) ∧ mg x = some (.ref f) ∧ PySem.W.keepIn K (.ref f) = true ∧ Binds K fd ps []
theorem fn_okO {x qual : Str} {st : Stmt} {f : Addr} {fd : FuncData} {N ps : List Str} {k : Nat} {R : List D → OC → Prop} (F : Fun K x qual st f fd) (S : FnScope N ps (defScope st)) (hR : ∀ ds d, R ds d → ds.length = ps.length)
    (h : ∀ ds d, R ds d → ∀ (cdv : Value) (A : Around) (outer : List Env) (s : Shared) (H : Hp) (E : XK), Room k (A.deeper (envOfC qual (defScope st) s.heap.objs.size f cdv)) →
      WSs (bx P w K mg base N qual st f cdv A outer s H E) (defBody st) (en N ds) (fun o => o = .ro d)) : FnOk P w K mg base CX0 (k + 1) f fd ps (spO K R) := by
  refine F.ok S (fun vs H Q E hs => ?_) fun cdv A outer s H vs Q E hr hs => ?_
  · obtain ⟨H0, ds, d, _, r, q, _⟩ := hs
    rw [← DRs.length r]; exact hR ds d q
  · obtain ⟨H0, ds, d, s0, r, q, kk⟩ := hs
    have hN : ds.length ≤ N.length := by
      have h1 := hR ds d q
      have h2 := congrArg List.length S.pre
      rw [List.length_take] at h2
      omega
    obtain ⟨t, h1, h2⟩ := h ds d q cdv A outer s H E hr H0 H (L2.start N vs) H0 H (j_start s0 r hN) (Dn := { nx := fun _ H' => Q .non H', rt := Q }) fun o ho => by
      subst ho
      exact fun a o G0 G g e1 e2 e3 rv => kk a o G0 G g e1 e2 e3 rv
    exact ⟨t, h1, h2⟩
theorem fn_wrapO {x : Str} {f : Addr} {fd : FuncData} {ps : List Str} {k : Nat} {R : List D → OC → Prop} (hm : mg x = some (.ref f)) (hb : Binds K fd ps []) (kp : PySem.W.keepIn K (.ref f) = true) (F : FnOk P w K mg base CX0 k f fd ps (spO K R)) :
    FnO P w K mg base x k R := ⟨⟨f, fd, ps, F, hm, kp, hb⟩⟩
theorem eo_call {X : Cx} {ρ : En} {e : Expr} {pos : Pos} {c : OC} {x : Str} {k : Nat} {R : List D → OC → Prop} {es : List Expr} {ds : List D} {p : Pos} (G : FnO X.prog X.w X.K X.mg X.base x k R) (hr : Room k X.A) (hg : Gl X x) (ha : AD X ρ (e :: es) ds) (hR : R ds c)
    (hdb : (x == ("__debug__" : Str)) = false := by decide) (he : starEach (e :: es) X.env = (false, eval e X.env) :: starEach es X.env := by rfl) (hpl : (backTo pos (starEach es X.env)).any (·.1) = false := by rfl) :
    EO X ρ (.Call (.Name x p) (e :: es) [] pos) c := fun B0 B σ H0 H Q j kk => by
  obtain ⟨f, fd, ps, F, hm, hk, hb⟩ := G.ex
  refine RE.of (pe_call (E := E0) F hr hg hm hk hb .nil pass0 pa_star hdb he hpl) (ha B0 B σ H0 H _ j fun vs G0 G g r => ?_)
  rw [List.append_nil]
  exact ⟨G0, ds, c, g.sh, r, hR, fun a o L0 L g2 e1 e2 e3 r2 => kk a o L0 L (g.trans g2) e1 e2 (g.sB.free e3) r2⟩
/-- what a law promises -/
inductive RLaw : List D → D → Prop where
  | mk (ns : List Int) (h : ns.length ≤ 63) : RLaw [.lst (ns.map .int)] (.bl true)
def spLaw (K : PySem.W.Frag) : Sp := fun vs H Q _ => ∃ (a : Addr) (ns : List Int), vs = [.ref a] ∧ SqL K H a (ns.map V.int) ∧ ns.length ≤ 63 ∧ ∀ H', Q (.bl true) H'
theorem law_sp {k : Nat} {f : Addr} {fd : FuncData} {ps : List Str} (F : FnOk P w K mg base CX0 k f fd ps (spR K RLaw)) : FnOk P w K mg base CX0 k f fd ps (spLaw K) :=
  F.imp fun vs H Q E ⟨a, ns, e, hS, hl, q⟩ => ⟨H, [.lst (ns.map .int)], .bl true, Same.refl H, by rw [e]; exact ⟨.ref a, [], rfl, ⟨a, _, rfl, hS, DRs.ofInts ns⟩, rfl⟩, ⟨ns, hl⟩, fun r H0' H' g rr => by
    cases (show r = .bl true from rr); exact q H'⟩
theorem walk_law {l : PySem.W.OpenLaw} {q : Program} {loose : List Str} {XP : (Str → Option Value) → Heap → Prop} {YP : World → Heap → Prop} {d : DefRec} {K : Params → PySem.W.Frag} {k : Nat} (hn : l.most = some 63) (hr : Room k callerA) (hdf : d.params.defaults = [])
    (hY : ∀ (w : World) (h : Heap), YP w h → (K w.params).In h)
    (F : ∀ (w : World) (mg : Str → Option Value) (fa : Addr) (h : Heap), (K w.params).In h → h.Ns mainGlobals mg → mg d.name = some (.ref fa) →
      ∃ fd : FuncData, (∀ (s : Shared) (u : Value), BindsTo s fd ⟨[u], []⟩ [("script", u)]) ∧ ∀ base : Heap, (K w.params).In base → base.Ns mainGlobals mg → FnOk l.prog w (K w.params) mg base CX0 k fa fd ["script"] (spR (K w.params) RLaw)) :
    PySem.W.WalkO q loose XP YP l.row.toRowW d [] (fun f vs => PySem.call f vs) :=
  L2.walk_of (n := 63) (k := k) (x := "script") (CX := fun _ => CX0) (sp := fun w => spLaw (K w.params)) hn (by decide) hdf hr hY
    (fun w mg fa h KX G e => let ⟨fd, h1, h2⟩ := F w mg fa h KX G e; ⟨fd, h1, fun base b1 b2 => law_sp (h2 base b1 b2)⟩) (fun _ _ a ns hl _ hS => ⟨a, ns, rfl, hS, hl, fun _ => rfl⟩) fun _ _ _ _ _ z => z
end
section
variable {X : Cx} {ρ : En}
/-- an item of a list, a tuple, a text -/
inductive IX : D → D → D → Prop where
  | t {ds i d} (h : atI ds i = some d) : IX (.tup ds) (.int i) d
  | l {ds i d} (h : atI ds i = some d) : IX (.lst ds) (.int i) d
theorem IX.t0 {a r} : IX (.tup (a :: r)) (.int 0) a := .t (by unfold atI ixN; simp only [List.length_cons]; rw [if_pos (by decide), if_pos (by omega)]; rfl)
theorem IX.t1 {a b r} : IX (.tup (a :: b :: r)) (.int 1) b := .t (by unfold atI ixN; simp only [List.length_cons]; rw [if_pos (by decide), if_pos (by omega)]; rfl)
theorem IX.t2 {a b c r} : IX (.tup (a :: b :: c :: r)) (.int 2) c := .t (by unfold atI ixN; simp only [List.length_cons]; rw [if_pos (by decide), if_pos (by omega)]; rfl)
theorem IX.t3 {a b c d r} : IX (.tup (a :: b :: c :: d :: r)) (.int 3) d := .t (by unfold atI ixN; simp only [List.length_cons]; rw [if_pos (by decide), if_pos (by omega)]; rfl)
theorem IX.t4 {a b c d e r} : IX (.tup (a :: b :: c :: d :: e :: r)) (.int 4) e := .t (by unfold atI ixN; simp only [List.length_cons]; rw [if_pos (by decide), if_pos (by omega)]; rfl)
theorem IX.t5 {a b c d e f r} : IX (.tup (a :: b :: c :: d :: e :: f :: r)) (.int 5) f := .t (by unfold atI ixN; simp only [List.length_cons]; rw [if_pos (by decide), if_pos (by omega)]; rfl)
theorem IX.l0 {a r} : IX (.lst (a :: r)) (.int 0) a := .l (by unfold atI ixN; simp only [List.length_cons]; rw [if_pos (by decide), if_pos (by omega)]; rfl)
theorem IX.l1 {a b r} : IX (.lst (a :: b :: r)) (.int 1) b := .l (by unfold atI ixN; simp only [List.length_cons]; rw [if_pos (by decide), if_pos (by omega)]; rfl)
theorem IX.l2 {a b c r} : IX (.lst (a :: b :: c :: r)) (.int 2) c := .l (by unfold atI ixN; simp only [List.length_cons]; rw [if_pos (by decide), if_pos (by omega)]; rfl)
theorem ed_ix {a b : Expr} {d1 d2 d : D} {pos : Pos} (ha : ED X ρ a d1) (hb : ED X ρ b d2) (h : IX d1 d2 d) (hs : PlainIx b := by exact fun _ _ => rfl) : ED X ρ (.Subscript a b pos) d := by
  cases h with
  | t h => exact ix_t ha hb h hs
  | l h => exact ix_l ha hb h hs
theorem atI_lit {α : Type} {xs : List α} {j : Nat} {v : α} (h : xs[j]? = some v) : atI xs (j : Int) = some v := atI_nat h
theorem atI_nn {α : Type} {xs : List α} {i : Int} {v : α} (h0 : 0 ≤ i) (h : xs[i.toNat]? = some v) : atI xs i = some v := by
  have e : ((i.toNat : Nat) : Int) = i := Int.toNat_of_nonneg h0
  rw [← e]; exact atI_nat h
/-- isinstance of a built-in class -/
def tyD : D → Option String
  | .non => some "NoneType" | .bl _ => some "bool" | .int _ => some "int" | .str _ => some "str"
  | .lst _ => some "list" | .tup _ => some "tuple" | .dk _ _ => some "dict" | .dt _ _ => none | .obj _ _ _ => none | .ad _ => none | .ptp _ => none | .ty _ => none
theorem tyx_of {K : PySem.W.Frag} {H : Hp} {d : D} {v : V} {n : String} (h : DR K H d v) (hn : tyD d = some n) (hnn : n ≠ "NoneType") : TyX K H v (.type n) := by
  cases d with
  | non => cases hn; exact absurd rfl hnn
  | bl _ => cases (show v = .bl _ from h); cases hn; exact .base (.bl _)
  | int _ => cases (show v = .int _ from h); cases hn; exact .base (.int _)
  | str _ => cases (show v = .str _ from h); cases hn; exact .base (.str _)
  | lst _ =>
    obtain ⟨a, vs, rfl, h1, _⟩ := h
    cases hn
    rcases h1 with (h1 | ⟨o, h1⟩) | ⟨o, its, n, h1, h2, _⟩
    · exact .base (.lst h1)
    · exact .base (.frz h1)
    · exact .kList h1 h2
  | tup _ =>
    obtain ⟨a, vs, rfl, h1, _⟩ := h
    cases hn
    rcases h1 with (h1 | ⟨o, h1⟩) | ⟨o, its, n, h1, h2, _⟩
    · exact .base (.tup h1)
    · exact .fTuple h1
    · exact .kTuple h1 h2
  | dk _ _ =>
    obtain ⟨a, vs, rfl, h1, _⟩ := h
    cases hn
    rcases h1 with h1 | ⟨o, h1⟩
    · exact .base (.dK h1)
    · exact .fDict h1
  | dt _ _ => cases hn
  | obj _ _ _ => cases hn
  | ad _ => cases hn
  | ptp _ => cases hn
  | ty _ => cases hn
theorem bc_isi {d : D} {n c : String} {b : Bool} (hn : tyD d = some n) (h : kitB n c = some b) (hnn : n ≠ "NoneType" := by decide) : BC X (.builtin "isinstance") [d, .ty c] (.bl b) :=
  bc_keep call_isi _ (fun _ => rfl) fun H0 H vs _ s r q => by
    obtain ⟨x, y, rfl, h1, h2⟩ := r.two
    cases (show y = .ty c from h2)
    exact ⟨x, .ty c, .type n, .type c, b, rfl, .ty c, tyx_of (DR.mono s _ _ h1) hn hnn, kit_ty h, q⟩
theorem ed_ty {x : Str} {n : String} {pos : Pos} (hg : Gl X x) (hm : X.mg x = none) (hv : bootBuiltins x = some (.type n)) (hn : x ≠ "__name__" := by decide) (hd : (x == ("__debug__" : Str)) = false := by decide) : ED X ρ (.Name x pos) (.ty n) :=
  fun B0 B σ H0 H Q j k => RE.of (pe_bltn (v := .ty n) hg hm hv rfl hn hd) (k _ H0 H (JH.refl j.same) rfl)

/-! comprehensions, loops over lists of a kind -/
theorem filterMap_some {α β : Type} (f : α → β) : ∀ xs : List α, (xs.map fun x => some (f x)).filterMap id = xs.map f
  | [] => rfl
  | x :: xs => by simp [filterMap_some f xs]
theorem filterMap_if {α β : Type} (p : α → Bool) (f : α → β) : ∀ xs : List α, (xs.map fun x => if p x = true then some (f x) else none).filterMap id = (xs.filter p).map f
  | [] => rfl
  | x :: xs => by
    have ih := filterMap_if p f xs
    by_cases h : p x = true
    · simp only [List.map_cons, if_pos h, List.filter_cons_of_pos h, List.filterMap_cons, id, ih]
    · simp only [List.map_cons, if_neg h, List.filter_cons_of_neg h, List.filterMap_cons, id, ih]
section
variable {elt tg iter : Expr} {ifs : List Expr} {scope : Scope} {ds : List D} {cpos pos : Pos} {α β : Type} {Φ : Out → Prop}
theorem turns_map {own : List (Str × Nat)} {xs : List α} {enc : α → D} {f : α → D} (he : ds = xs.map enc) (turn : ∀ x ∈ xs, Turn1 X ρ scope (own.map (·.2)) tg elt ifs (enc x) (some (f x))) :
    ∀ (i : Nat) d y, ds[i]? = some d → (xs.map fun x => some (f x))[i]? = some y → Turn1 X ρ scope (own.map (·.2)) tg elt ifs d y := by
  subst he
  intro i d y h1 h2
  rw [List.getElem?_map] at h1 h2
  cases q : xs[i]? with
  | none => rw [q] at h1; cases h1
  | some x =>
    rw [q] at h1 h2
    cases h1; cases h2
    exact turn x (List.mem_of_getElem? q)
theorem turns_if {own : List (Str × Nat)} {xs : List α} {enc : α → D} {p : α → Bool} {f : α → D} (he : ds = xs.map enc) (turn : ∀ x ∈ xs, Turn1 X ρ scope (own.map (·.2)) tg elt ifs (enc x) (if p x = true then some (f x) else none)) :
    ∀ (i : Nat) d y, ds[i]? = some d → (xs.map fun x => if p x = true then some (f x) else none)[i]? = some y → Turn1 X ρ scope (own.map (·.2)) tg elt ifs d y := by
  subst he
  intro i d y h1 h2
  rw [List.getElem?_map] at h1 h2
  cases q : xs[i]? with
  | none => rw [q] at h1; cases h1
  | some x =>
    rw [q] at h1 h2
    cases h1; cases h2
    exact turn x (List.mem_of_getElem? q)
/-- [f x for x in xs] -/
theorem eo_map (own : List (Str × Nat)) (xs : List α) (enc : α → D) (f : α → D) (hc : X.calm = true) (hN : X.N.Nodup) (ok : BlkOk X.N X.env.scope scope own) (hi : ID X ρ tg iter ds) (he : ds = xs.map enc) (turn : ∀ x ∈ xs, Turn1 X ρ scope (own.map (·.2)) tg elt ifs (enc x) (some (f x))) (hl : xs.length ≤ sizeLine)
    (hs : ∀ x, foldedSetIterable iter X.env x = pure x := by intro _; rfl) : EO X ρ (.ListComp elt [⟨tg, iter, ifs, 0⟩] scope cpos) (.lst (xs.map f)) := by
  have h := eo_lc (cpos := cpos) own hc hN ok hi (xs.map fun x => some (f x)) (by rw [he]; simp) (turns_map he turn) (by rw [he]; simpa using hl) hs
  rwa [filterMap_some] at h
/-- [f x for x in xs if p x] -/
theorem eo_filter (own : List (Str × Nat)) (xs : List α) (enc : α → D) (p : α → Bool) (f : α → D) (hc : X.calm = true) (hN : X.N.Nodup) (ok : BlkOk X.N X.env.scope scope own) (hi : ID X ρ tg iter ds) (he : ds = xs.map enc) (turn : ∀ x ∈ xs, Turn1 X ρ scope (own.map (·.2)) tg elt ifs (enc x) (if p x = true then some (f x) else none)) (hl : xs.length ≤ sizeLine)
    (hs : ∀ x, foldedSetIterable iter X.env x = pure x := by intro _; rfl) : EO X ρ (.ListComp elt [⟨tg, iter, ifs, 0⟩] scope cpos) (.lst ((xs.filter p).map f)) := by
  have h := eo_lc (cpos := cpos) own hc hN ok hi (xs.map fun x => if p x = true then some (f x) else none) (by rw [he]; simp) (turns_if he turn) (by rw [he]; simpa using hl) hs
  rwa [filterMap_if] at h
theorem ws_setMap (i : Nat) (own : List (Str × Nat)) (xs : List α) (enc : α → D) (f : α → D) {y : Str} {py : Pos} (hc : X.calm = true) (hN : X.N.Nodup) (ok : BlkOk X.N X.env.scope scope own) (hi : ID X ρ tg iter ds) (he : ds = xs.map enc) (turn : ∀ x ∈ xs, Turn1 X ρ scope (own.map (·.2)) tg elt ifs (enc x) (some (f x))) (hl : xs.length ≤ sizeLine)
    (hΦ : Φ (.nx (ρ.set i (.ow (.lst (xs.map f)))))) (hy : X.N[i]? = some y := by rfl) (hyl : X.env.scope.names.lookup y = some .local := by rfl)
    (hsw : swapsWith (.ListComp elt [⟨tg, iter, ifs, 0⟩] scope cpos) (some (.Name y py)) pos.line X.env = pure true := by exact sw_true rfl rfl rfl (by decide +kernel)) (hs : ∀ x, foldedSetIterable iter X.env x = pure x := by intro _; rfl) :
    WS X (.Assign [.Name y py] (.ListComp elt [⟨tg, iter, ifs, 0⟩] scope cpos) pos) ρ Φ :=
  ws_setLc i own hc hN ok hi (xs.map fun x => some (f x)) (by rw [he]; simp) (turns_map he turn) (by rw [he]; simpa using hl) (by rw [filterMap_some]; exact hΦ) hy hyl hsw hs
theorem ws_setFilter (i : Nat) (own : List (Str × Nat)) (xs : List α) (enc : α → D) (p : α → Bool) (f : α → D) {y : Str} {py : Pos} (hc : X.calm = true) (hN : X.N.Nodup) (ok : BlkOk X.N X.env.scope scope own) (hi : ID X ρ tg iter ds) (he : ds = xs.map enc) (turn : ∀ x ∈ xs, Turn1 X ρ scope (own.map (·.2)) tg elt ifs (enc x) (if p x = true then some (f x) else none)) (hl : xs.length ≤ sizeLine)
    (hΦ : Φ (.nx (ρ.set i (.ow (.lst ((xs.filter p).map f)))))) (hy : X.N[i]? = some y := by rfl) (hyl : X.env.scope.names.lookup y = some .local := by rfl)
    (hsw : swapsWith (.ListComp elt [⟨tg, iter, ifs, 0⟩] scope cpos) (some (.Name y py)) pos.line X.env = pure true := by exact sw_true rfl rfl rfl (by decide +kernel)) (hs : ∀ x, foldedSetIterable iter X.env x = pure x := by intro _; rfl) :
    WS X (.Assign [.Name y py] (.ListComp elt [⟨tg, iter, ifs, 0⟩] scope cpos) pos) ρ Φ :=
  ws_setLc i own hc hN ok hi (xs.map fun x => if p x = true then some (f x) else none) (by rw [he]; simp) (turns_if he turn) (by rw [he]; simpa using hl) (by rw [filterMap_if]; exact hΦ) hy hyl hsw hs
/-- for x in xs: I by the turn and the slots -/
theorem ws_forT (xs : List α) (enc : α → D) {body : List Stmt} (hc : X.calm = true) (hi : ID X ρ tg iter ds) (he : ds = xs.map enc) (I : Nat → En → Prop) (h0 : I 0 ρ)
    (hs : ∀ i x ρ', xs[i]? = some x → I i ρ' → ∃ is ρ'', DG X is tg (enc x) ρ' ρ'' ∧ WSs X body ρ'' (fun o => match o with | .nx r => I (i + 1) r | .ct r => I (i + 1) r | .bk r => Φ (.nx r) | .rt v => Φ (.rt v) | .ro c => Φ (.ro c) | .rc v cs => Φ (.rc v cs))) (hd : ∀ ρ', I xs.length ρ' → Φ (.nx ρ'))
    (hp : PassesOwn (model X.prog X.w) X.A X.env X.xe := by exact PassesOwn.never) (hf : ∀ x, foldedSetIterable iter X.env x = pure x := by intro _; rfl) : WS X (.For tg iter body [] pos) ρ Φ := by
  subst he
  refine ws_for hc hi I h0 (fun i d ρ' h1 h2 => ?_) (by simpa using hd) hp hf
  rw [List.getElem?_map] at h1
  cases q : xs[i]? with
  | none => rw [q] at h1; cases h1
  | some x =>
    rw [q] at h1
    cases h1
    exact hs i x ρ' q h2
end
/-! truth -/
def tru : D → Option Bool
  | .non => some false | .bl b => some b | .int i => some (i != 0) | .lst ds => some (!ds.isEmpty) | .tup ds => some (!ds.isEmpty) | _ => none
theorem DRs.emp {K : PySem.W.Frag} {H : Hp} {ds : List D} {vs : List V} (h : DRs K H ds vs) : vs.isEmpty = ds.isEmpty := by
  cases ds with
  | nil => cases (show vs = [] from h); rfl
  | cons d ds => obtain ⟨v, r, rfl, _⟩ := h; rfl
theorem td_truth {e : Expr} {d : D} {k : Bool} (h : ED X ρ e d) (hk : tru d = some k) (he : ∀ whole, isTrue e X.env whole = (do let v ← whole; standAt e.pos; holding [v] (truthy v)) := by intro _; rfl) : TD X ρ e k := fun B0 B σ H0 H Q j kk =>
  RT.of (pt_truth pe_star he) (h B0 B σ H0 H _ j fun v H0' H' g r => by
    cases d with
    | non => cases (show v = .non from r); cases hk; exact ⟨_, rfl, kk _ _ g⟩
    | bl _ => cases (show v = .bl _ from r); cases hk; exact ⟨_, rfl, kk _ _ g⟩
    | int _ => cases (show v = .int _ from r); cases hk; exact ⟨_, rfl, kk _ _ g⟩
    | lst ds =>
      obtain ⟨a, vs, rfl, h1, h2⟩ := r
      cases hk
      exact ⟨_, .inl ⟨vs, g.sh.seq h1, rfl⟩, by rw [h2.emp]; exact kk _ _ g⟩
    | tup ds =>
      obtain ⟨a, vs, rfl, h1, h2⟩ := r
      cases hk
      exact ⟨_, .inr (.inl ⟨vs, Same.seqT g.sh h1, rfl⟩), by rw [h2.emp]; exact kk _ _ g⟩
    | str _ => cases hk
    | ty _ => cases hk
    | dk _ _ => cases hk
    | dt _ _ => cases hk
    | obj _ _ _ => cases hk
    | ad _ => cases hk
    | ptp _ => cases hk)

theorem fn_wrap {P : Program} {w : World} {K : PySem.W.Frag} {mg : Str → Option Value} {base : Heap} {x : Str} {f : Addr} {fd : FuncData} {ps : List Str} {k : Nat} {R : List D → D → Prop} (hm : mg x = some (.ref f)) (hb : Binds K fd ps []) (kp : PySem.W.keepIn K (.ref f) = true) (F : FnOk P w K mg base CX0 k f fd ps (spR K R)) :
    Fn P w K mg base x k R := ⟨⟨f, fd, ps, F, hm, kp, hb⟩⟩
theorem b2_powL {i j n : Int} (h : CPow i j) (e : i ^ j.toNat = n) : B2 X .Pow (.int i) (.int j) (.int n) := e ▸ b2_pow h
theorem turn_if {Y : Cx} {scope : Scope} {vs : List Nat} {tg elt : Expr} {ifs : List Expr} {d y : D} {p : Bool} (h1 : p = true → Turn1 Y ρ scope vs tg elt ifs d (some y)) (h2 : p = false → Turn1 Y ρ scope vs tg elt ifs d none) :
    Turn1 Y ρ scope vs tg elt ifs d (if p = true then some y else none) := by
  cases p with
  | true => exact h1 rfl
  | false => exact h2 rfl
/-! slices, lists put together -/
inductive Part (X : Cx) (ρ : En) : Option Expr → Option Int → Prop where
  | none : Part X ρ none none
  | some {e i} (h : ED X ρ e (.int i)) : Part X ρ (some e) (some i)
theorem no_part : Part X ρ none none := .none
theorem some_part {e i} (h : ED X ρ e (.int i)) : Part X ρ (some e) (some i) := .some h
def RP (X : Cx) (e : Option Expr) : TO := fun σ H Q => ∃ t, PO X e t ∧ t σ H Q
theorem po_star {e} : PO X e (RP X e) := ⟨fun pins s σ H Q I ⟨_, h, q⟩ => h.run pins s σ H Q I q⟩
theorem Part.run {e : Option Expr} {o : Option Int} (h : Part X ρ e o) {B0 B : Hp} {σ : L2.St} {H0 H : Hp} {Q : Option Int → Hp → Prop} (j : J X.K B0 B σ H0 H ρ) (k : ∀ H0' H', JH H0 H H0' H' → Q o H') : RP X e σ H Q := by
  cases h with
  | none => exact ⟨_, po_none, k H0 H (JH.refl j.same)⟩
  | some h => exact ⟨_, po_some pe_star, h B0 B σ H0 H _ j fun v H0' H' g r => ⟨_, r, k H0' H' g⟩⟩
def cutD (xs : List D) (lo hi : Option Int) : List D := (xs.drop (HT.sIx xs.length 0 lo)).take (HT.sIx xs.length xs.length hi - HT.sIx xs.length 0 lo)
theorem DRs.cut {K : PySem.W.Frag} {H : Hp} {ds : List D} {vs : List V} (h : DRs K H ds vs) (lo hi : Option Int) : DRs K H (cutD ds lo hi) (cutV vs lo hi) := by
  unfold cutD cutV
  rw [← DRs.length h]
  exact DRs.take _ (DRs.drop _ h)
theorem eo_slice {e : Expr} {lo hi : Option Expr} {p q : Option Int} {ds : List D} {p2 pos : Pos} (he : ED X ρ e (.lst ds)) (hl : Part X ρ lo p) (hh : Part X ρ hi q) : EO X ρ (.Subscript e (.Slice lo hi none p2) pos) (.lst (cutD ds p q)) := fun B0 B σ H0 H Q j k =>
  RE.of (pe_slice sl_list pe_star po_star po_star) (he B0 B σ H0 H _ j fun v G0 G g1 r => hl.run (j.grow g1) fun L0 L g2 => hh.run ((j.grow g1).grow g2) fun M0 M g3 => by
    obtain ⟨a, vs, rfl, h1, h2⟩ := r
    have g := g2.trans g3
    exact ⟨a, vs, rfl, g.sh.seq (g.s0.seq h1), fun p hp => k p _ M0 _ ((g1.trans g).trans (JH.own g.sh hp)) upd_same (g.sh.free hp) ((g1.trans g).sB.free hp) ⟨_, rfl, DRs.cut (DRs.mono g.s0 _ _ h2) _ _⟩⟩)

theorem rngD0 (n : Nat) : rngD 0 n = (List.range n).map fun (i : Nat) => D.int (i : Int) := by
  unfold rngD
  refine List.map_congr_left fun i _ => ?_
  rw [Int.zero_add]

/-- some slots changed -/
def upds (ρ : En) (l : List (Nat × Sl)) : En := l.foldl (fun r p => r.set p.1 p.2) ρ
/-- for x in xs: what changes from turn to turn is told slot by slot: G, of the turn and of what one doesn't care for (V reads it off) -/
theorem ws_forU {α U : Type} {tg iter : Expr} {ds : List D} {pos : Pos} {Φ : Out → Prop} (xs : List α) (enc : α → D) {body : List Stmt} (hc : X.calm = true) (hi : ID X ρ tg iter ds) (he : ds = xs.map enc) (G : Nat → U → List (Nat × Sl)) (V : En → U) (P : Nat → Prop) (hρ : upds ρ (G 0 (V ρ)) = ρ) (h0 : P 0)
    (hs : ∀ i x u, xs[i]? = some x → P i → ∃ is ρ'', DG X is tg (enc x) (upds ρ (G i u)) ρ'' ∧ WSs X body ρ'' (fun o => match o with | .nx r => upds ρ (G (i + 1) (V r)) = r ∧ P (i + 1) | .ct r => upds ρ (G (i + 1) (V r)) = r ∧ P (i + 1) | .bk r => Φ (.nx r) | .rt v => Φ (.rt v) | .ro c => Φ (.ro c) | .rc v cs => Φ (.rc v cs)))
    (hd : ∀ u, P xs.length → Φ (.nx (upds ρ (G xs.length u))))
    (hp : PassesOwn (model X.prog X.w) X.A X.env X.xe := by exact PassesOwn.never) (hf : ∀ x, foldedSetIterable iter X.env x = pure x := by intro _; rfl) : WS X (.For tg iter body [] pos) ρ Φ := by
  refine ws_forT xs enc hc hi he (fun i r => (∃ u, upds ρ (G i u) = r) ∧ P i) ⟨⟨V ρ, hρ⟩, h0⟩ (fun i x r hx hI => ?_) (fun r hI => ?_) hp hf
  · obtain ⟨⟨u, rfl⟩, p⟩ := hI
    obtain ⟨is, r2, h1, h2⟩ := hs i x u hx p
    refine ⟨is, r2, h1, ws_mono h2 fun o ho => ?_⟩
    cases o with
    | nx r => exact ⟨⟨_, ho.1⟩, ho.2⟩
    | ct r => exact ⟨⟨_, ho.1⟩, ho.2⟩
    | bk r => exact ho
    | rt v => exact ho
    | ro c => exact ho
    | rc v cs => exact ho
  · obtain ⟨⟨u, rfl⟩, p⟩ := hI
    exact hd u p
end
/-! the built-in names -/
theorem bb_len : bootBuiltins (PySem.Str.ofString "len") = some (.builtin "len") := by decide +kernel
theorem bb_min : bootBuiltins (PySem.Str.ofString "min") = some (.builtin "min") := by decide +kernel
theorem bb_max : bootBuiltins (PySem.Str.ofString "max") = some (.builtin "max") := by decide +kernel
theorem bb_sum : bootBuiltins (PySem.Str.ofString "sum") = some (.builtin "sum") := by decide +kernel
theorem bb_any : bootBuiltins (PySem.Str.ofString "any") = some (.builtin "any") := by decide +kernel
theorem bb_all : bootBuiltins (PySem.Str.ofString "all") = some (.builtin "all") := by decide +kernel
theorem bb_isinstance : bootBuiltins (PySem.Str.ofString "isinstance") = some (.builtin "isinstance") := by decide +kernel
theorem bb_sorted : bootBuiltins (PySem.Str.ofString "sorted") = some (.builtin "sorted") := by decide +kernel
theorem bb_abs : bootBuiltins (PySem.Str.ofString "abs") = some (.builtin "abs") := by decide +kernel
theorem bb_int : bootBuiltins (PySem.Str.ofString "int") = some (.type "int") := by decide +kernel
theorem bb_tuple : bootBuiltins (PySem.Str.ofString "tuple") = some (.type "tuple") := by decide +kernel
theorem bb_list : bootBuiltins (PySem.Str.ofString "list") = some (.type "list") := by decide +kernel
theorem bb_str : bootBuiltins (PySem.Str.ofString "str") = some (.type "str") := by decide +kernel
theorem bb_bool : bootBuiltins (PySem.Str.ofString "bool") = some (.type "bool") := by decide +kernel
theorem bb_dict : bootBuiltins (PySem.Str.ofString "dict") = some (.type "dict") := by decide +kernel
theorem bb_set : bootBuiltins (PySem.Str.ofString "set") = some (.type "set") := by decide +kernel
theorem bb_range : bootBuiltins (PySem.Str.ofString "range") = some (.type "range") := by decide +kernel
theorem bb_enumerate : bootBuiltins (PySem.Str.ofString "enumerate") = some (.type "enumerate") := by decide +kernel
theorem bb_zip : bootBuiltins (PySem.Str.ofString "zip") = some (.type "zip") := by decide +kernel
theorem bb_reversed : bootBuiltins (PySem.Str.ofString "reversed") = some (.type "reversed") := by decide +kernel
end DL

/-! Data compared; constants of a module; dicts whose keys are tuples. -/
namespace DL
open PySem PySem.Spec PyProof.Rows L2

/-- data of ints and short texts, n deep -/
def smallStr (x : Str) : Prop := PyData.strOk x = true
inductive Cm : Nat → D → Prop where
  | int {n i} : Cm n (.int i)
  | str {n x} (h : smallStr x) : Cm n (.str x)
  | tup {n ds} (h : ∀ d ∈ ds, Cm n d) : Cm (n + 1) (.tup ds)
  | lst {n ds} (h : ∀ d ∈ ds, Cm n d) : Cm (n + 1) (.lst ds)
theorem Cm.mono {n m : Nat} (h : n ≤ m) {d : D} (c : Cm n d) : Cm m d := by
  induction c generalizing m with
  | int => exact .int
  | str q => exact .str q
  | tup _ ih =>
    obtain ⟨m, rfl⟩ : ∃ m', m = m' + 1 := ⟨m - 1, by omega⟩
    exact .tup fun d hd => ih d hd (by omega)
  | lst _ ih =>
    obtain ⟨m, rfl⟩ : ∃ m', m = m' + 1 := ⟨m - 1, by omega⟩
    exact .lst fun d hd => ih d hd (by omega)
theorem plains_iff : ∀ {ds : List D}, (∀ d ∈ ds, d.plain = true) → D.plains ds = true
  | [], _ => by simp [D.plains]
  | d :: ds, h => by simp only [D.plains, Bool.and_eq_true]; exact ⟨h d (by simp), plains_iff fun e he => h e (by simp [he])⟩
theorem lays_iff : ∀ {ds : List D}, (∀ d ∈ ds, d.py.canLay0 = true) → PyData.canLayAll0 (D.pys ds) = true
  | [], _ => by simp [D.pys, PyData.canLayAll0]
  | d :: ds, h => by simp only [D.pys, PyData.canLayAll0, Bool.and_eq_true]; exact ⟨h d (by simp), lays_iff fun e he => h e (by simp [he])⟩
theorem depths_le : ∀ {ds : List D} {n : Nat}, (∀ d ∈ ds, d.py.depth ≤ n) → PyData.depthAll (D.pys ds) ≤ n
  | [], n, _ => by simp [D.pys, PyData.depthAll]
  | d :: ds, n, h => by
    simp only [D.pys, PyData.depthAll]
    have h1 := h d (by simp)
    have h2 := depths_le (ds := ds) (n := n) fun e he => h e (by simp [he])
    omega
theorem Cm.plain {n : Nat} {d : D} (c : Cm n d) : d.plain = true := by
  induction c with
  | int => simp [D.plain]
  | str _ => simp [D.plain]
  | tup _ ih => simp only [D.plain]; exact plains_iff ih
  | lst _ ih => simp only [D.plain]; exact plains_iff ih
theorem Cm.lay {n : Nat} {d : D} (c : Cm n d) : d.py.canLay0 = true := by
  induction c with
  | int => simp [D.py, PyData.canLay0]
  | str h => simp only [D.py, PyData.canLay0]; exact h
  | tup _ ih => simp only [D.py, PyData.canLay0]; exact lays_iff ih
  | lst _ ih => simp only [D.py, PyData.canLay0]; exact lays_iff ih
theorem Cm.depth {n : Nat} {d : D} (c : Cm n d) : d.py.depth ≤ n + 1 := by
  induction c with
  | int => simp [D.py, PyData.depth]
  | str _ => simp [D.py, PyData.depth]
  | tup _ ih => simp only [D.py, PyData.depth]; have := depths_le ih; omega
  | lst _ ih => simp only [D.py, PyData.depth]; have := depths_le ih; omega
theorem Cm.cmp {n : Nat} {d : D} (c : Cm n d) (hn : n ≤ 63) : Cmp d := ⟨c.plain, by
  unfold SeqAt.shaped
  rw [c.lay]
  have := c.depth
  simp; omega⟩
theorem Cm.inv {n : Nat} {d : D} (c : Cm n d) : (∃ i, d = .int i) ∨ (∃ x, d = .str x) ∨ (∃ ds m, d = .tup ds ∧ n = m + 1 ∧ ∀ e ∈ ds, Cm m e) ∨ (∃ ds m, d = .lst ds ∧ n = m + 1 ∧ ∀ e ∈ ds, Cm m e) := by
  cases c with
  | int => exact .inl ⟨_, rfl⟩
  | str _ => exact .inr (.inl ⟨_, rfl⟩)
  | tup h => exact .inr (.inr (.inl ⟨_, _, rfl, rfl, h⟩))
  | lst h => exact .inr (.inr (.inr ⟨_, _, rfl, rfl, h⟩))
theorem eqvs_iff {n m : Nat} (ih : ∀ d e, Cm n d → Cm m e → (PyData.eqv d.py e.py = true ↔ d = e)) : ∀ (ds es : List D), (∀ d ∈ ds, Cm n d) → (∀ e ∈ es, Cm m e) → (PyData.eqvAll (D.pys ds) (D.pys es) = true ↔ ds = es)
  | [], [], _, _ => by simp [D.pys, PyData.eqvAll]
  | [], e :: es, _, _ => by simp [D.pys, PyData.eqvAll]
  | d :: ds, [], _, _ => by simp [D.pys, PyData.eqvAll]
  | d :: ds, e :: es, h1, h2 => by
    have h3 := eqvs_iff ih ds es (fun x hx => h1 x (by simp [hx])) (fun x hx => h2 x (by simp [hx]))
    have h4 := ih d e (h1 d (by simp)) (h2 e (by simp))
    simp only [D.pys, PyData.eqvAll, Bool.and_eq_true, h3, h4, List.cons.injEq]
theorem eqv_iff : ∀ (n m : Nat) (d e : D), Cm n d → Cm m e → (PyData.eqv d.py e.py = true ↔ d = e)
  | n, m, d, e, c, c' => by
    rcases c.inv with ⟨i, rfl⟩ | ⟨x, rfl⟩ | ⟨ds, k, rfl, rfl, h⟩ | ⟨ds, k, rfl, rfl, h⟩ <;> rcases c'.inv with ⟨j, rfl⟩ | ⟨y, rfl⟩ | ⟨es, l, rfl, rfl, h'⟩ | ⟨es, l, rfl, rfl, h'⟩
    · simp [D.py, PyData.eqv]
    · simp [D.py, PyData.eqv]
    · simp [D.py, PyData.eqv]
    · simp [D.py, PyData.eqv]
    · simp [D.py, PyData.eqv]
    · simp [D.py, PyData.eqv]
    · simp [D.py, PyData.eqv]
    · simp [D.py, PyData.eqv]
    · simp [D.py, PyData.eqv]
    · simp [D.py, PyData.eqv]
    · simp only [D.py, PyData.eqv, D.tup.injEq]
      exact eqvs_iff (fun d e c c' => eqv_iff k l d e c c') ds es h h'
    · simp [D.py, PyData.eqv]
    · simp [D.py, PyData.eqv]
    · simp [D.py, PyData.eqv]
    · simp [D.py, PyData.eqv]
    · simp only [D.py, PyData.eqv, D.lst.injEq]
      exact eqvs_iff (fun d e c c' => eqv_iff k l d e c c') ds es h h'
theorem Cm.ints {n : Nat} {ns : List Int} : ∀ d ∈ ns.map D.int, Cm n d := fun d hd => by
  obtain ⟨i, _, rfl⟩ := List.mem_map.mp hd
  exact .int
theorem Cm.all_nil {n : Nat} : ∀ d ∈ ([] : List D), Cm n d := fun d hd => by simp at hd
theorem Cm.all_cons {n : Nat} {d : D} {ds : List D} (h : Cm n d) (r : ∀ e ∈ ds, Cm n e) : ∀ e ∈ d :: ds, Cm n e := fun e he => by
  rcases List.mem_cons.mp he with rfl | he
  · exact h
  · exact r e he
section
variable {X : Cx} {ρ : En}
theorem c2_eqC {n m : Nat} {d e : D} {k : Bool} (hu : X.A.units + 64 < cLine) (c : Cm n d) (c' : Cm m e) (hk : k = true ↔ d = e) (hn : n ≤ 63 := by decide) (hm : m ≤ 63 := by decide) : C2 X .Eq d e (.bl k) := by
  refine c2_eqD hu (c.cmp hn) (c'.cmp hm) ?_
  have h := eqv_iff n m d e c c'
  cases k with
  | true => exact h.mpr (hk.mp rfl)
  | false =>
    cases q : PyData.eqv d.py e.py with
    | false => rfl
    | true => exact absurd (hk.mpr (h.mp q)) (by simp)
theorem c2_neC {n m : Nat} {d e : D} {k : Bool} (hu : X.A.units + 64 < cLine) (c : Cm n d) (c' : Cm m e) (hk : k = true ↔ d = e) (hn : n ≤ 63 := by decide) (hm : m ≤ 63 := by decide) : C2 X .NotEq d e (.bl (!k)) := by
  refine c2_neD hu (c.cmp hn) (c'.cmp hm) ?_
  have h := eqv_iff n m d e c c'
  cases k with
  | true => exact h.mpr (hk.mp rfl)
  | false =>
    cases q : PyData.eqv d.py e.py with
    | false => rfl
    | true => exact absurd (hk.mpr (h.mp q)) (by simp)

/-! constants of a module -/
def KD (K : PySem.W.Frag) (d : D) (u : Value) : Prop := ∃ v, RelV v u ∧ ∀ H, DR K H d v
def KDs (K : PySem.W.Frag) (ds : List D) (us : List Value) : Prop := ∃ vs, Vals vs us ∧ ∀ H, DRs K H ds vs
theorem kd_int {K : PySem.W.Frag} {i : Int} {t : Tok} : KD K (.int i) (.int i t) := ⟨.int i, ⟨t, rfl⟩, fun _ => rfl⟩
theorem kd_bl {K : PySem.W.Frag} {b : Bool} : KD K (.bl b) (.bool b) := ⟨.bl b, rfl, fun _ => rfl⟩
theorem kd_str {K : PySem.W.Frag} {x : Str} {t : Tok} : KD K (.str x) (.str x t) := ⟨.str x, ⟨t, rfl⟩, fun _ => rfl⟩
theorem kds_nil {K : PySem.W.Frag} : KDs K [] [] := ⟨[], .nil, fun _ => rfl⟩
theorem kds_cons {K : PySem.W.Frag} {d : D} {ds : List D} {u : Value} {us : List Value} (h : KD K d u) (r : KDs K ds us) : KDs K (d :: ds) (u :: us) := by
  obtain ⟨v, h1, h2⟩ := h
  obtain ⟨vs, h3, h4⟩ := r
  exact ⟨v :: vs, .cons h1 h3, fun H => ⟨v, vs, rfl, h2 H, h4 H⟩⟩
theorem kd_tup {K : PySem.W.Frag} {a : Addr} {o : Obj} {ds : List D} {its : Array Value} {n : Nat} (l : K.lookup a = some o) (c : o.cls = .type "tuple") (e : o.data = .seq its n) (z : its.size ≤ sizeLine) (r : KDs K ds its.toList) : KD K (.tup ds) (.ref a) := by
  obtain ⟨vs, h1, h2⟩ := r
  exact ⟨.ref a, rfl, fun H => ⟨a, vs, rfl, .inr ⟨o, its, n, l, c, e, z, h1⟩, h2 H⟩⟩
structure Cst (K : PySem.W.Frag) (mg : Str → Option Value) (x : Str) (d : D) : Prop where
  ex : ∃ u, mg x = some u ∧ KD K d u
theorem ed_const {x : Str} {d : D} {pos : Pos} (h : Cst X.K X.mg x d) (hg : Gl X x) (hd : (x == ("__debug__" : Str)) = false := by decide) : ED X ρ (.Name x pos) d := fun B0 B σ H0 H Q j k => by
  obtain ⟨u, h1, v, h2, h3⟩ := h.ex
  exact RE.of (pe_glob hg h1 h2 hd) (k v H0 H (JH.refl j.same) (h3 H0))

/-! a call with keywords -/
inductive KWs (X : Cx) (ρ : En) : List Keyword → List D → Prop where
  | nil : KWs X ρ [] []
  | cons {nm e p kws d ds} (h : ED X ρ e d) (r : KWs X ρ kws ds) : KWs X ρ (⟨nm, e, p⟩ :: kws) (d :: ds)
def RK (X : Cx) (kws : List Keyword) : TA := fun σ H Q => ∃ t, PK X kws t ∧ t σ H Q
theorem pk_star {kws} : PK X kws (RK X kws) := ⟨fun pos pins s σ H Q I ⟨_, h, q⟩ => h.run pos pins s σ H Q I q⟩
theorem KWs.run {kws : List Keyword} {ds : List D} (h : KWs X ρ kws ds) : ∀ {B0 B : Hp} {σ : L2.St} {H0 H : Hp} {Q : List V → Hp → Prop}, J X.K B0 B σ H0 H ρ → (∀ vs H0' H', JH H0 H H0' H' → DRs X.K H0' ds vs → Q vs H') → RK X kws σ H Q := by
  induction h with
  | nil => exact fun j k => ⟨_, pk_nil, k [] _ _ (JH.refl j.same) rfl⟩
  | cons h r ih =>
    intro B0 B σ H0 H Q j k
    exact ⟨_, pk_cons pe_star pk_star, h B0 B σ H0 H _ j fun v G0 G g1 r1 => ih (j.grow g1) fun vs L0 L g2 r2 => k (v :: vs) L0 L (g1.trans g2) ⟨v, vs, rfl, DR.mono g2.s0 _ _ r1, r2⟩⟩
end
/-- what a keyword call hands on, put in the parameters' order: g over data and values alike -/
structure Fk (P : Program) (w : World) (K : PySem.W.Frag) (mg : Str → Option Value) (base : Heap) (x : Str) (ks : List Str) (k n : Nat) (R : List D → List D → D → Prop) : Prop where
  ex : ∃ f fd ps g gV R0, FnOk P w K mg base CX0 k f fd ps (spR K R0) ∧ mg x = some (.ref f) ∧ PySem.W.keepIn K (.ref f) = true ∧ KBn K fd ps n ks g gV ∧
    ∀ ds es d, R ds es d → ds.length = n ∧ es.length = ks.length ∧ ∀ (H : Hp) vs ws, DRs K H ds vs → DRs K H es ws → ∃ ds', DRs K H ds' (gV vs ws) ∧ R0 ds' d
theorem ed_callK {X : Cx} {ρ : En} {x : Str} {ks : List Str} {k n : Nat} {R : List D → List D → D → Prop} {e : Expr} {es : List Expr} {kws : List Keyword} {ds zs : List D} {d : D} {p pos : Pos} (G : Fk X.prog X.w X.K X.mg X.base x ks k n R) (hr : Room k X.A) (hg : Gl X x) (ha : AD X ρ (e :: es) ds) (hk : KWs X ρ kws zs) (hR : R ds zs d)
    (hall : (backToKw pos (keywordEach kws X.env)).all (·.1.isSome) = true := by rfl) (hks : (backToKw pos (keywordEach kws X.env)).filterMap (·.1) = ks := by rfl)
    (hdb : (x == ("__debug__" : Str)) = false := by decide) (he : starEach (e :: es) X.env = (false, eval e X.env) :: starEach es X.env := by rfl)
    (hpl : ((backTo pos (starEach (e :: es) X.env)).any (·.1) || (backToKw pos (keywordEach kws X.env)).any (·.1.isNone)) = false := by rfl) :
    ED X ρ (.Call (.Name x p) (e :: es) kws pos) d := fun B0 B σ H0 H Q j kk => by
  obtain ⟨f, fd, ps, g, gV, R0, F, hm, hkp, hb, hR0⟩ := G.ex
  refine RE.of (pe_callN (E := E0) F hr hg hm hkp hb pass0 pa_star pk_star hall hks hdb he hpl) (ha B0 B σ H0 H _ j fun vs G0 G' g1 r1 => hk.run (j.grow g1) fun ws L0 L g2 r2 => ?_)
  obtain ⟨h1, h2, h3⟩ := hR0 ds zs d hR
  have r1' := DRs.mono g2.s0 _ _ r1
  obtain ⟨ds', h4, h5⟩ := h3 L0 vs ws r1' r2
  exact ⟨by rw [← DRs.length r1]; exact h1, by rw [← DRs.length r2]; exact h2, L0, ds', d, g2.sh, h4, h5, fun v M0 M g3 r3 => kk v M0 M ((g1.trans g2).trans g3) r3⟩
section
variable {X : Cx} {ρ : En}
theorem ed_ifI {c a b : Expr} {k : Bool} {i j : Int} {pos : Pos} (h : TD X ρ c k) (h1 : k = true → ED X ρ a (.int i)) (h2 : k = false → ED X ρ b (.int j)) : ED X ρ (.IfExp c a b pos) (.int (if k = true then i else j)) :=
  ed_if h (fun e => by subst e; exact h1 rfl) (fun e => by subst e; exact h2 rfl)
theorem ed_ifv {c a b : Expr} {k : Bool} {d e : D} {pos : Pos} (h : TD X ρ c k) (h1 : k = true → ED X ρ a d) (h2 : k = false → ED X ρ b e) : ED X ρ (.IfExp c a b pos) (if k = true then d else e) :=
  ed_if h (fun q => by subst q; exact h1 rfl) (fun q => by subst q; exact h2 rfl)
end
section
variable {X : Cx}
theorem map_int_inj {ns ms : List Int} : ns.map D.int = ms.map D.int ↔ ns = ms := by
  constructor
  · intro h
    exact List.map_inj_right (f := D.int) (fun a b e => by cases e; rfl) |>.mp h
  · rintro rfl; rfl
theorem c2_eqInts {ns ms : List Int} (hu : X.A.units + 64 < cLine) : C2 X .Eq (.tup (ns.map .int)) (.tup (ms.map .int)) (.bl (decide (ns = ms))) :=
  c2_eqC (n := 1) (m := 1) hu (.tup Cm.ints) (.tup Cm.ints) (by simp [map_int_inj])
theorem c2_neInts {ns ms : List Int} (hu : X.A.units + 64 < cLine) : C2 X .NotEq (.tup (ns.map .int)) (.tup (ms.map .int)) (.bl (!decide (ns = ms))) :=
  c2_neC (n := 1) (m := 1) hu (.tup Cm.ints) (.tup Cm.ints) (by simp [map_int_inj])
theorem c2_eqIntsL {ns ms : List Int} (hu : X.A.units + 64 < cLine) : C2 X .Eq (.lst (ns.map .int)) (.lst (ms.map .int)) (.bl (decide (ns = ms))) :=
  c2_eqC (n := 1) (m := 1) hu (.lst Cm.ints) (.lst Cm.ints) (by simp [map_int_inj])
theorem c2_eq2 {a b c d : Int} (hu : X.A.units + 64 < cLine) : C2 X .Eq (.tup [.int a, .int b]) (.tup [.int c, .int d]) (.bl (decide ([a, b] = [c, d]))) := c2_eqInts (ns := [a, b]) (ms := [c, d]) hu
theorem c2_ne2 {a b c d : Int} (hu : X.A.units + 64 < cLine) : C2 X .NotEq (.tup [.int a, .int b]) (.tup [.int c, .int d]) (.bl (!decide ([a, b] = [c, d]))) := c2_neInts (ns := [a, b]) (ms := [c, d]) hu
theorem c2_eq4 {a b c d e f g h : Int} (hu : X.A.units + 64 < cLine) : C2 X .Eq (.tup [.int a, .int b, .int c, .int d]) (.tup [.int e, .int f, .int g, .int h]) (.bl (decide ([a, b, c, d] = [e, f, g, h]))) := c2_eqInts (ns := [a, b, c, d]) (ms := [e, f, g, h]) hu
theorem c2_ne4 {a b c d e f g h : Int} (hu : X.A.units + 64 < cLine) : C2 X .NotEq (.tup [.int a, .int b, .int c, .int d]) (.tup [.int e, .int f, .int g, .int h]) (.bl (!decide ([a, b, c, d] = [e, f, g, h]))) := c2_neInts (ns := [a, b, c, d]) (ms := [e, f, g, h]) hu
end
theorem isNon_if {c : D} (k : Bool) (h : isNon c = false) : isNon (if k = true then c else .non) = !k := by
  cases k with
  | true => simpa using h
  | false => rfl
theorem notNon_if {c : D} (k : Bool) (h : isNon c = false) : (!isNon (if k = true then c else .non)) = k := by
  rw [isNon_if k h, Bool.not_not]
theorem band_dec {p q : Prop} [Decidable p] [Decidable q] (h : p ∧ q) : (decide p && decide q) = true := by simp [h.1, h.2]
/-! keyword-only parameters -/
theorem kbinds0 {K : PySem.W.Frag} {x qual : Str} {params : Arguments} {body : List Stmt} {scope : Scope} {kws : List (Str × V)} {f : Addr} {fd : FuncData} {ps : List Str} (F : FunD K x qual params body scope [] kws f fd) (n : Nat) (ks : List Str) (ms : List (Str × V)) (g : {α : Type} → List α → List α → List α → List α) (hk : kws ≠ []) (hms : ∀ q ∈ ms, q ∈ kws)
    (hrel : ∀ {vs mz zs : List V} {us mv ws : List Value}, Vals vs us → Vals mz mv → Vals zs ws → Vals (g vs mz zs) (g us mv ws))
    (h : ∀ (D : Addr) (doc pm : Value) (an : Option Addr) (cdv ct : Value) (us mv ws : List Value), us.length = n → mv.length = ms.length → ws.length = ks.length →
      KwChain D ((ms.map (·.1)).zip mv) (bindArgs (PySem.W.fnOf x qual params body scope .none (.ref D) doc pm an cdv ct) ⟨us, ks.zip ws⟩) (ps.zip (g us mv ws))) :
    ∃ mv : List Value, KBn K fd ps n ks (fun us ws => g us mv ws) (fun vs zs => g vs (ms.map (·.2)) zs) := by
  obtain ⟨oc, od, dV, kV, doc, pm, an, cdv, ct, osl, rfl, lk, hcd, hD, hK⟩ := F.ex
  rcases hD with ⟨_, rfl⟩ | ⟨e, _⟩
  · rcases hK with e | ⟨D, rfl, hq⟩
    · exact absurd e hk
    · obtain ⟨mv, hl, rk, hks⟩ := kwd_vals (ms := ms) fun q hm => hq q (hms q hm)
      exact ⟨mv, ⟨fun s us ws X l1 l2 => BindsTo.of_looks fun M => KwChain.looks X hks (h D doc pm an cdv ct us mv ws l1 hl l2), fun r1 r2 => hrel r1 rk r2⟩⟩
  · exact absurd rfl e

theorem fk_of {P : Program} {w : World} {K : PySem.W.Frag} {mg : Str → Option Value} {base : Heap} {x : Str} {ks ps : List Str} {k n : Nat} {f : Addr} {fd : FuncData} {R0 : List D → D → Prop} {g : List Value → List Value → List Value} {gV : List V → List V → List V} {gD : List D → List D → List D}
    (hb : KBn K fd ps n ks g gV) (G0 : FnOk P w K mg base CX0 k f fd ps (spR K R0)) (hm : mg x = some (.ref f)) (kp : PySem.W.keepIn K (.ref f) = true)
    (gd : ∀ H ds es vs ws, DRs K H ds vs → DRs K H es ws → DRs K H (gD ds es) (gV vs ws)) : Fk P w K mg base x ks k n (fun ds es d => ds.length = n ∧ es.length = ks.length ∧ R0 (gD ds es) d) :=
  ⟨⟨f, fd, ps, g, gV, R0, G0, hm, kp, hb, fun ds es d ⟨h1, h2, h3⟩ => ⟨h1, h2, fun H vs ws r1 r2 => ⟨gD ds es, gd H ds es vs ws r1 r2, h3⟩⟩⟩⟩
/-- .. all of them left out -/
structure Fd (P : Program) (w : World) (K : PySem.W.Frag) (mg : Str → Option Value) (base : Heap) (x : Str) (k : Nat) (R : List D → D → Prop) : Prop where
  ex : ∃ f fd ps ds dvs dd R0, FnOk P w K mg base CX0 k f fd ps (spR K R0) ∧ mg x = some (.ref f) ∧ PySem.W.keepIn K (.ref f) = true ∧ Binds K fd ps ds ∧ Vals dvs ds ∧ (∀ H, DRs K H dd dvs) ∧ ∀ es d, R es d → R0 (es ++ dd) d
theorem ed_callD {X : Cx} {ρ : En} {x : Str} {k : Nat} {R : List D → D → Prop} {e : Expr} {es : List Expr} {ds : List D} {d : D} {p pos : Pos} (G : Fd X.prog X.w X.K X.mg X.base x k R) (hr : Room k X.A) (hg : Gl X x) (ha : AD X ρ (e :: es) ds) (hR : R ds d)
    (hdb : (x == ("__debug__" : Str)) = false := by decide) (he : starEach (e :: es) X.env = (false, eval e X.env) :: starEach es X.env := by rfl) (hpl : (backTo pos (starEach es X.env)).any (·.1) = false := by rfl) :
    ED X ρ (.Call (.Name x p) (e :: es) [] pos) d := fun B0 B σ H0 H Q j kk => by
  obtain ⟨f, fd, ps, dV, dvs, dd, R0, F, hm, hk, hb, hv, hd, h0⟩ := G.ex
  refine RE.of (pe_call (E := E0) F hr hg hm hk hb hv pass0 pa_star hdb he hpl) (ha B0 B σ H0 H _ j fun vs G0 G g r => ?_)
  exact ⟨G0, ds ++ dd, d, g.sh, DRs.app r (hd G0), h0 ds d hR, fun v L0 L g2 r2 => kk v L0 L (g.trans g2) r2⟩
theorem fd_of {P : Program} {w : World} {K : PySem.W.Frag} {mg : Str → Option Value} {base : Heap} {x : Str} {ps : List Str} {k : Nat} {f : Addr} {fd : FuncData} {R0 : List D → D → Prop} {dvs : List V} {dd : List D}
    (hb : ∃ ds, Vals dvs ds ∧ Binds K fd ps ds) (hd : ∀ H, DRs K H dd dvs) (G0 : FnOk P w K mg base CX0 k f fd ps (spR K R0)) (hm : mg x = some (.ref f)) (kp : PySem.W.keepIn K (.ref f) = true) : Fd P w K mg base x k (fun es d => R0 (es ++ dd) d) := by
  obtain ⟨ds, h1, h2⟩ := hb
  exact ⟨⟨f, fd, ps, ds, dvs, dd, R0, G0, hm, kp, h2, h1, hd, fun es d h => h⟩⟩
theorem kwd_nil {K : PySem.W.Frag} {D : Addr} : ∀ q ∈ ([] : List (Str × V)), ∃ u, PySem.W.nsIn K D q.1 = some (some u) ∧ RelV q.2 u := fun q hq => by simp at hq
theorem kwd_cons {K : PySem.W.Frag} {D : Addr} {x : Str} {v : V} {u : Value} {l : List (Str × V)} (h : PySem.W.nsIn K D x = some (some u)) (r : RelV v u) (t : ∀ q ∈ l, ∃ u, PySem.W.nsIn K D q.1 = some (some u) ∧ RelV q.2 u) : ∀ q ∈ (x, v) :: l, ∃ u, PySem.W.nsIn K D q.1 = some (some u) ∧ RelV q.2 u := fun q hq => by
  rcases List.mem_cons.mp hq with rfl | hq
  · exact ⟨u, h, r⟩
  · exact t q hq
section
variable {X : Cx} {ρ ρ' : En}
theorem dg_unl {is : List Nat} {es : List Expr} {ds : List D} {k1 : Nat} {n : Nat} {pos : Pos} (hc : X.calm = true) (h : DGs X is es ds ρ ρ') (hl : ds.length = n := by rfl) (hn : (assignEach es X.env).length = n := by rfl) (hst : (assignEach es X.env).findIdx? (·.1) = none := by rfl) :
    DG X is (.Tuple es k1 pos) (.lst ds) ρ ρ' := fun B0 B σ H0 H v Q j r k => by
  obtain ⟨p, vs, rfl, h1, h2⟩ := r
  exact ⟨_, pg_unl hc pgs_star hn hst, p, vs, rfl, j.same.seq h1, by rw [← DRs.length h2]; exact hl, h B0 B σ H0 H vs Q j h2 k⟩
section
variable {elt tg iter : Expr} {ifs : List Expr} {scope : Scope} {ds : List D} {cpos pos : Pos} {α β : Type} {Φ : Out → Prop}
/-- [f x for x in xs], the items of a kind -/
theorem eo_map2 (own : List (Str × Nat)) (xs : List α) (enc : α → D) (g : α → β) (enc2 : β → D) (hc : X.calm = true) (hN : X.N.Nodup) (ok : BlkOk X.N X.env.scope scope own) (hi : ID X ρ tg iter ds) (he : ds = xs.map enc) (turn : ∀ x ∈ xs, Turn1 X ρ scope (own.map (·.2)) tg elt ifs (enc x) (some (enc2 (g x)))) (hl : xs.length ≤ sizeLine)
    (hs : ∀ x, foldedSetIterable iter X.env x = pure x := by intro _; rfl) : EO X ρ (.ListComp elt [⟨tg, iter, ifs, 0⟩] scope cpos) (.lst ((xs.map g).map enc2)) := by
  have h := eo_map (cpos := cpos) own xs enc (fun x => enc2 (g x)) hc hN ok hi he turn hl hs
  rw [List.map_map]; exact h
theorem eo_filter2 (own : List (Str × Nat)) (xs : List α) (enc : α → D) (p : α → Bool) (g : α → β) (enc2 : β → D) (hc : X.calm = true) (hN : X.N.Nodup) (ok : BlkOk X.N X.env.scope scope own) (hi : ID X ρ tg iter ds) (he : ds = xs.map enc) (turn : ∀ x ∈ xs, Turn1 X ρ scope (own.map (·.2)) tg elt ifs (enc x) (if p x = true then some (enc2 (g x)) else none)) (hl : xs.length ≤ sizeLine)
    (hs : ∀ x, foldedSetIterable iter X.env x = pure x := by intro _; rfl) : EO X ρ (.ListComp elt [⟨tg, iter, ifs, 0⟩] scope cpos) (.lst (((xs.filter p).map g).map enc2)) := by
  have h := eo_filter (cpos := cpos) own xs enc p (fun x => enc2 (g x)) hc hN ok hi he turn hl hs
  rw [List.map_map]; exact h
theorem ws_setMap2 (i : Nat) (own : List (Str × Nat)) (xs : List α) (enc : α → D) (g : α → β) (enc2 : β → D) {y : Str} {py : Pos} (hc : X.calm = true) (hN : X.N.Nodup) (ok : BlkOk X.N X.env.scope scope own) (hi : ID X ρ tg iter ds) (he : ds = xs.map enc) (turn : ∀ x ∈ xs, Turn1 X ρ scope (own.map (·.2)) tg elt ifs (enc x) (some (enc2 (g x)))) (hl : xs.length ≤ sizeLine)
    (hΦ : Φ (.nx (ρ.set i (.ow (.lst ((xs.map g).map enc2)))))) (hy : X.N[i]? = some y := by rfl) (hyl : X.env.scope.names.lookup y = some .local := by rfl)
    (hsw : swapsWith (.ListComp elt [⟨tg, iter, ifs, 0⟩] scope cpos) (some (.Name y py)) pos.line X.env = pure true := by exact sw_true rfl rfl rfl (by decide +kernel)) (hs : ∀ x, foldedSetIterable iter X.env x = pure x := by intro _; rfl) :
    WS X (.Assign [.Name y py] (.ListComp elt [⟨tg, iter, ifs, 0⟩] scope cpos) pos) ρ Φ :=
  ws_setMap i own xs enc (fun x => enc2 (g x)) hc hN ok hi he turn hl (by rw [List.map_map] at hΦ; exact hΦ) hy hyl hsw hs
theorem ws_setFilter2 (i : Nat) (own : List (Str × Nat)) (xs : List α) (enc : α → D) (p : α → Bool) (g : α → β) (enc2 : β → D) {y : Str} {py : Pos} (hc : X.calm = true) (hN : X.N.Nodup) (ok : BlkOk X.N X.env.scope scope own) (hi : ID X ρ tg iter ds) (he : ds = xs.map enc) (turn : ∀ x ∈ xs, Turn1 X ρ scope (own.map (·.2)) tg elt ifs (enc x) (if p x = true then some (enc2 (g x)) else none)) (hl : xs.length ≤ sizeLine)
    (hΦ : Φ (.nx (ρ.set i (.ow (.lst (((xs.filter p).map g).map enc2)))))) (hy : X.N[i]? = some y := by rfl) (hyl : X.env.scope.names.lookup y = some .local := by rfl)
    (hsw : swapsWith (.ListComp elt [⟨tg, iter, ifs, 0⟩] scope cpos) (some (.Name y py)) pos.line X.env = pure true := by exact sw_true rfl rfl rfl (by decide +kernel)) (hs : ∀ x, foldedSetIterable iter X.env x = pure x := by intro _; rfl) :
    WS X (.Assign [.Name y py] (.ListComp elt [⟨tg, iter, ifs, 0⟩] scope cpos) pos) ρ Φ :=
  ws_setFilter i own xs enc p (fun x => enc2 (g x)) hc hN ok hi he turn hl (by rw [List.map_map] at hΦ; exact hΦ) hy hyl hsw hs
end
theorem c2_neSame {n : Nat} {d : D} (hu : X.A.units + 64 < cLine) (c : Cm n d) (hn : n ≤ 63 := by decide) : C2 X .NotEq d d (.bl false) := c2_neC (k := true) hu c c (by simp) hn hn
end
end DL

/-! The mathematics that laws share. -/
namespace DL
open PySem

/-- the k-th number of a script, 0 behind its end -/
def cellAt (ns : List Int) (k : Int) : Int := ns.getD k.toNat 0
def mix1 (c k : Int) : Int := (c * 48271 + (k + 1) * 69621) % 2147483647
def mix2 (c k : Int) : Int := (mix1 c k * mix1 c k + mix1 c k * 16807 + k * 7919) % 2147483629
def mix3 (c k : Int) : Int := (mix2 c k * mix2 c k + c + 13 * k) % 2147483587
def drawStep (c : Int) (a : List Int × Int) (k : Nat) : List Int × Int :=
  if 1000000000000000000 ≤ c ∧ 0 < a.2 then (a.1 ++ [a.2 % 4096], a.2 / 4096) else (a.1 ++ [mix3 c k / 7 % 4096], a.2)
def drawn (c : Int) (n : Nat) : List Int × Int := (List.range n).foldl (drawStep c) ([], c)
def draws (c n : Int) : List Int := (drawn c n.toNat).1
theorem drawn_succ (c : Int) (n : Nat) : drawn c (n + 1) = drawStep c (drawn c n) n := by
  unfold drawn; rw [List.range_succ, List.foldl_append]; rfl
theorem draws_spec (c : Int) : ∀ n, (drawn c n).1.length = n ∧ ∀ x ∈ (drawn c n).1, 0 ≤ x ∧ x < 4096
  | 0 => by simp [drawn]
  | n + 1 => by
    obtain ⟨h1, h2⟩ := draws_spec c n
    rw [drawn_succ]
    unfold drawStep
    split
    · refine ⟨by simp [h1], fun x hx => ?_⟩
      simp only [List.mem_append, List.mem_singleton] at hx
      rcases hx with hx | rfl
      · exact h2 x hx
      · omega
    · refine ⟨by simp [h1], fun x hx => ?_⟩
      simp only [List.mem_append, List.mem_singleton] at hx
      rcases hx with hx | rfl
      · exact h2 x hx
      · omega
theorem draws_len (c n : Int) : (draws c n).length = n.toNat := (draws_spec c _).1
/-- the k-th draw -/
def dr (c n k : Int) : Int := (draws c n).getD k.toNat 0
theorem dr_get {c n k : Int} (h0 : 0 ≤ k) (h : k < n) : (draws c n)[k.toNat]? = some (dr c n k) := by
  unfold dr
  have : k.toNat < (draws c n).length := by rw [draws_len]; omega
  simp [this]
theorem dr_lo (c n k : Int) : 0 ≤ dr c n k ∧ dr c n k < 4096 := by
  unfold dr
  rw [List.getD_eq_getElem?_getD]
  cases q : (draws c n)[k.toNat]? with
  | none => simp
  | some x => exact (draws_spec c _).2 _ (List.mem_of_getElem? q)
/-- an item of a list of numbers -/
theorem at_ints {ns : List Int} {i : Int} {k : Nat} {x : Int} (e : i = k) (h : ns[k]? = some x) : L2.atI (ns.map D.int) i = some (.int x) := by
  subst e
  exact L2.atI_nat (by rw [List.getElem?_map, h]; rfl)
theorem at_draws {c n i : Int} (h0 : 0 ≤ i) (h : i < n) : L2.atI ((draws c n).map D.int) i = some (.int (dr c n i)) :=
  at_ints (k := i.toNat) (by omega) (dr_get h0 h)
/-- the scale of a cell -/
def scA (c : Int) : Int := if c % 5 = 2 then 1 + c / 5 % 1000000000 else 1
def scB (c : Int) : Int := if c % 5 = 1 then c / 5 % 2000000 - 1000000 else if c % 5 = 2 then c / 5 % 1000000000000000000 - 500000000000000000 else 0
theorem scA_lo (c : Int) : 1 ≤ scA c ∧ scA c ≤ 1000000000 := by unfold scA; split <;> omega
theorem scB_lo (c : Int) : -500000000000000000 ≤ scB c ∧ scB c ≤ 500000000000000000 := by unfold scB; split <;> (try split) <;> omega
def bx0 (a : Int) : Int := a % 11 - 2
def by0 (a : Int) : Int := a / 11 % 11 - 2
def bx1 (a : Int) : Int := a % 11 - 2 + 1 + a / 121 % 6
def by1 (a b : Int) : Int := a / 11 % 11 - 2 + 1 + b % 6
theorem box_lo (a b : Int) : -2 ≤ bx0 a ∧ bx0 a ≤ 8 ∧ -2 ≤ by0 a ∧ by0 a ≤ 8 ∧ bx0 a < bx1 a ∧ bx1 a ≤ bx0 a + 6 ∧ by0 a < by1 a b ∧ by1 a b ≤ by0 a + 6 := by
  unfold bx0 by0 bx1 by1; omega
theorem scl_lt {a b x y : Int} (ha : 1 ≤ a) : x * a + b < y * a + b ↔ x < y := by
  constructor
  · intro h
    refine Int.lt_of_mul_lt_mul_right (a := a) ?_ (by omega)
    omega
  · intro h
    have := Int.mul_lt_mul_of_pos_right h (show (0 : Int) < a by omega)
    omega
theorem scl_sub (a b x y : Int) : (y * a + b) - (x * a + b) = (y - x) * a := by
  rw [Int.sub_mul]; omega
theorem scl_big {a b x y : Int} (ha : 1 ≤ a) (ha2 : a ≤ 1000000000) (h0 : x < y) (h1 : y ≤ x + 20) : 0 ≤ (y * a + b) - (x * a + b) ∧ (y * a + b) - (x * a + b) ≤ 20000000000 := by
  rw [scl_sub]
  have h2 : (y - x) * a ≤ 20 * a := Int.mul_le_mul_of_nonneg_right (by omega) (by omega)
  have h3 : 0 ≤ (y - x) * a := Int.mul_nonneg (by omega) (by omega)
  omega
theorem area_eq (a b x0 y0 x1 y1 : Int) : ((x1 * a + b) - (x0 * a + b)) * ((y1 * a + b) - (y0 * a + b)) = (x1 - x0) * (y1 - y0) * a * a := by
  rw [scl_sub, scl_sub]
  simp only [Int.mul_assoc, Int.mul_left_comm, Int.mul_comm]
def boxD (x0 y0 x1 y1 : Int) : D := .tup [.int x0, .int y0, .int x1, .int y1]

/-! turns -/
def tA (t : Int) : Int := if t = 0 then 1 else if t = 2 then -1 else if t = 4 then -1 else if t = 6 then 1 else 0
def tB (t : Int) : Int := if t = 1 then -1 else if t = 3 then 1 else if t = 5 then -1 else if t = 7 then 1 else 0
def tC (t : Int) : Int := if t = 1 then 1 else if t = 3 then -1 else if t = 5 then -1 else if t = 7 then 1 else 0
def tD (t : Int) : Int := if t = 0 then 1 else if t = 2 then -1 else if t = 4 then 1 else if t = 6 then -1 else 0
theorem tA_lo (t : Int) : -1 ≤ tA t ∧ tA t ≤ 1 := by unfold tA; repeat' split <;> omega
theorem tB_lo (t : Int) : -1 ≤ tB t ∧ tB t ≤ 1 := by unfold tB; repeat' split <;> omega
theorem tC_lo (t : Int) : -1 ≤ tC t ∧ tC t ≤ 1 := by unfold tC; repeat' split <;> omega
theorem tD_lo (t : Int) : -1 ≤ tD t ∧ tD t ≤ 1 := by unfold tD; repeat' split <;> omega
def tx (t x y : Int) : Int := tA t * x + tB t * y
def ty (t x y : Int) : Int := tC t * x + tD t * y
def i4 (a b c d : Int) : D := .tup [.int a, .int b, .int c, .int d]
def turnsD : List D := [i4 1 0 0 1, i4 0 (-1) 1 0, i4 (-1) 0 0 (-1), i4 0 1 (-1) 0, i4 (-1) 0 0 1, i4 0 (-1) (-1) 0, i4 1 0 0 (-1), i4 0 1 1 0]
theorem turn8 {t : Int} (h : 0 ≤ t ∧ t < 8) : t = 0 ∨ t = 1 ∨ t = 2 ∨ t = 3 ∨ t = 4 ∨ t = 5 ∨ t = 6 ∨ t = 7 := by omega
theorem at_turns {t : Int} (h : 0 ≤ t ∧ t < 8) : L2.atI turnsD t = some (i4 (tA t) (tB t) (tC t) (tD t)) := by
  rcases turn8 h with rfl | rfl | rfl | rfl | rfl | rfl | rfl | rfl <;> rfl
def rot : Nat → Int → Int → Int × Int
  | 0, x, y => (x, y)
  | n + 1, x, y => (-(rot n x y).2, (rot n x y).1)
theorem law_turn {t x y : Int} (h : 0 ≤ t ∧ t < 8) : rot (t % 4).toNat (if 4 ≤ t then -x else x) y = (tx t x y, ty t x y) := by
  rcases turn8 h with rfl | rfl | rfl | rfl | rfl | rfl | rfl | rfl <;> simp [rot, tx, ty, tA, tB, tC, tD]
/-- the image of a box -/
def mx0 (t dx x0 y0 x1 y1 : Int) : Int := min (tx t x0 y0) (tx t x1 y1) + dx
def my0 (t dy x0 y0 x1 y1 : Int) : Int := min (ty t x0 y0) (ty t x1 y1) + dy
def mx1 (t dx x0 y0 x1 y1 : Int) : Int := max (tx t x0 y0) (tx t x1 y1) + dx
def my1 (t dy x0 y0 x1 y1 : Int) : Int := max (ty t x0 y0) (ty t x1 y1) + dy
def movedD (t dx dy x0 y0 x1 y1 : Int) : D := boxD (mx0 t dx x0 y0 x1 y1) (my0 t dy x0 y0 x1 y1) (mx1 t dx x0 y0 x1 y1) (my1 t dy x0 y0 x1 y1)
/-- the move of a cell -/
def mvT (c : Int) : Int := dr c 3 0 % 8
def mvX (c : Int) : Int := if c % 4 = 1 then c / 4 % 100000000000000000000 else dr c 3 1 % 31 - 15
def mvY (c : Int) : Int := if c % 4 = 1 then -(c / 7 % 1000000000000) else dr c 3 2 % 31 - 15
theorem mvT_lo (c : Int) : 0 ≤ mvT c ∧ mvT c < 8 := by unfold mvT; omega
/-! chains -/
def ct (f s : Int) : Int := (if 4 ≤ s then s - f else s + f) % 4 + (if ((4 ≤ f) ↔ (4 ≤ s)) then 0 else 4)
theorem ct_lo (f s : Int) : 0 ≤ ct f s ∧ ct f s < 8 := by unfold ct; split <;> split <;> omega
theorem comp_x {f s x y : Int} (hf : 0 ≤ f ∧ f < 8) (hs : 0 ≤ s ∧ s < 8) : tx (ct f s) x y = tx s (tx f x y) (ty f x y) ∧ ty (ct f s) x y = ty s (tx f x y) (ty f x y) := by
  rcases turn8 hf with rfl | rfl | rfl | rfl | rfl | rfl | rfl | rfl <;> rcases turn8 hs with rfl | rfl | rfl | rfl | rfl | rfl | rfl | rfl <;> simp [tx, ty, tA, tB, tC, tD, ct]
theorem comp_lo {s a b c d dx dy sx : Int} (hs : 0 ≤ s ∧ s < 8) : min (tx s a c) (tx s b d) + (tx s dx dy + sx) = min (tx s (min a b + dx) (min c d + dy)) (tx s (max a b + dx) (max c d + dy)) + sx ∧
    min (ty s a c) (ty s b d) + (ty s dx dy + sx) = min (ty s (min a b + dx) (min c d + dy)) (ty s (max a b + dx) (max c d + dy)) + sx ∧
    max (tx s a c) (tx s b d) + (tx s dx dy + sx) = max (tx s (min a b + dx) (min c d + dy)) (tx s (max a b + dx) (max c d + dy)) + sx ∧
    max (ty s a c) (ty s b d) + (ty s dx dy + sx) = max (ty s (min a b + dx) (min c d + dy)) (ty s (max a b + dx) (max c d + dy)) + sx := by
  rcases turn8 hs with rfl | rfl | rfl | rfl | rfl | rfl | rfl | rfl <;> simp only [tx, ty, tA, tB, tC, tD] <;> simp <;> omega
theorem comp_moved {f s x0 y0 x1 y1 dx dy sx sy : Int} (hf : 0 ≤ f ∧ f < 8) (hs : 0 ≤ s ∧ s < 8) : movedD (ct f s) (tx s dx dy + sx) (ty s dx dy + sy) x0 y0 x1 y1 =
    movedD s sx sy (mx0 f dx x0 y0 x1 y1) (my0 f dy x0 y0 x1 y1) (mx1 f dx x0 y0 x1 y1) (my1 f dy x0 y0 x1 y1) := by
  unfold movedD mx0 my0 mx1 my1
  simp only [comp_x hf hs]
  rw [(comp_lo (sx := sx) hs).1, (comp_lo (sx := sy) hs).2.1, (comp_lo (sx := sx) hs).2.2.1, (comp_lo (sx := sy) hs).2.2.2]
def inv (t : Int) : Int := if 4 ≤ t then t else (4 - t) % 4
theorem inv_lo {t : Int} (h : 0 ≤ t ∧ t < 8) : 0 ≤ inv t ∧ inv t < 8 := by unfold inv; split <;> omega
theorem inv_ct {t : Int} (h : 0 ≤ t ∧ t < 8) : ct t (inv t) = 0 ∧ ct (inv t) t = 0 := by
  rcases turn8 h with rfl | rfl | rfl | rfl | rfl | rfl | rfl | rfl <;> decide
theorem inv_t {t x y : Int} (h : 0 ≤ t ∧ t < 8) : tx t (-(tx (inv t) x y)) (-(ty (inv t) x y)) = -x ∧ ty t (-(tx (inv t) x y)) (-(ty (inv t) x y)) = -y := by
  rcases turn8 h with rfl | rfl | rfl | rfl | rfl | rfl | rfl | rfl <;> simp [tx, ty, tA, tB, tC, tD, inv] 

theorem stay_moved {x0 y0 x1 y1 : Int} (hx : x0 < x1) (hy : y0 < y1) : mx0 0 0 x0 y0 x1 y1 = x0 ∧ my0 0 0 x0 y0 x1 y1 = y0 ∧ mx1 0 0 x0 y0 x1 y1 = x1 ∧ my1 0 0 x0 y0 x1 y1 = y1 := by
  unfold mx0 my0 mx1 my1
  simp only [tx, ty, tA, tB, tC, tD]
  simp
  omega
theorem comp_list {f s x0 y0 x1 y1 dx dy sx sy : Int} (hf : 0 ≤ f ∧ f < 8) (hs : 0 ≤ s ∧ s < 8) :
    [mx0 (ct f s) (tx s dx dy + sx) x0 y0 x1 y1, my0 (ct f s) (ty s dx dy + sy) x0 y0 x1 y1, mx1 (ct f s) (tx s dx dy + sx) x0 y0 x1 y1, my1 (ct f s) (ty s dx dy + sy) x0 y0 x1 y1] =
    [mx0 s sx (mx0 f dx x0 y0 x1 y1) (my0 f dy x0 y0 x1 y1) (mx1 f dx x0 y0 x1 y1) (my1 f dy x0 y0 x1 y1), my0 s sy (mx0 f dx x0 y0 x1 y1) (my0 f dy x0 y0 x1 y1) (mx1 f dx x0 y0 x1 y1) (my1 f dy x0 y0 x1 y1),
     mx1 s sx (mx0 f dx x0 y0 x1 y1) (my0 f dy x0 y0 x1 y1) (mx1 f dx x0 y0 x1 y1) (my1 f dy x0 y0 x1 y1), my1 s sy (mx0 f dx x0 y0 x1 y1) (my0 f dy x0 y0 x1 y1) (mx1 f dx x0 y0 x1 y1) (my1 f dy x0 y0 x1 y1)] := by
  have h := comp_moved (x0 := x0) (y0 := y0) (x1 := x1) (y1 := y1) (dx := dx) (dy := dy) (sx := sx) (sy := sy) hf hs
  simp only [movedD, boxD, D.tup.injEq, List.cons.injEq, D.int.injEq] at h
  rw [h.1, h.2.1, h.2.2.1, h.2.2.2.1]
/-! boxes -/
structure Bx where
  a : Int
  b : Int
  c : Int
  d : Int
  deriving DecidableEq
def Bx.e (x : Bx) : D := .tup [.int x.a, .int x.b, .int x.c, .int x.d]
theorem Bx.inj {x y : Bx} (h : x.e = y.e) : x = y := by
  cases x; cases y
  simp only [Bx.e, D.tup.injEq, List.cons.injEq, D.int.injEq] at h
  simp [h.1, h.2.1, h.2.2.1, h.2.2.2.1]
theorem Bx.cm (x : Bx) : Cm 1 x.e := .tup (Cm.ints (ns := [x.a, x.b, x.c, x.d]))
theorem Bx.cms {bs : List Bx} : ∀ d ∈ bs.map Bx.e, Cm 1 d := fun d hd => by
  obtain ⟨x, _, rfl⟩ := List.mem_map.mp hd
  exact x.cm
structure IsHull (bs : List Bx) (x0 y0 x1 y1 : Int) : Prop where
  m0 : x0 ∈ bs.map Bx.a
  l0 : ∀ y ∈ bs.map Bx.a, x0 ≤ y
  m1 : y0 ∈ bs.map Bx.b
  l1 : ∀ y ∈ bs.map Bx.b, y0 ≤ y
  m2 : x1 ∈ bs.map Bx.c
  l2 : ∀ y ∈ bs.map Bx.c, y ≤ x1
  m3 : y1 ∈ bs.map Bx.d
  l3 : ∀ y ∈ bs.map Bx.d, y ≤ y1
theorem min_ex : ∀ (ns : List Int), ns ≠ [] → ∃ m ∈ ns, ∀ y ∈ ns, m ≤ y
  | [n], _ => ⟨n, by simp, by simp⟩
  | n :: k :: ns, _ => by
    obtain ⟨m, h1, h2⟩ := min_ex (k :: ns) (by simp)
    by_cases q : n ≤ m
    · exact ⟨n, by simp, fun y hy => by
        rcases List.mem_cons.mp hy with rfl | hy
        · omega
        · have := h2 y hy; omega⟩
    · exact ⟨m, by simp only [List.mem_cons] at h1 ⊢; exact .inr h1, fun y hy => by
        rcases List.mem_cons.mp hy with rfl | hy
        · omega
        · exact h2 y hy⟩
theorem max_ex : ∀ (ns : List Int), ns ≠ [] → ∃ m ∈ ns, ∀ y ∈ ns, y ≤ m
  | [n], _ => ⟨n, by simp, by simp⟩
  | n :: k :: ns, _ => by
    obtain ⟨m, h1, h2⟩ := max_ex (k :: ns) (by simp)
    by_cases q : m ≤ n
    · exact ⟨n, by simp, fun y hy => by
        rcases List.mem_cons.mp hy with rfl | hy
        · omega
        · have := h2 y hy; omega⟩
    · exact ⟨m, by simp only [List.mem_cons] at h1 ⊢; exact .inr h1, fun y hy => by
        rcases List.mem_cons.mp hy with rfl | hy
        · omega
        · exact h2 y hy⟩
theorem hull_ex {bs : List Bx} (h : bs ≠ []) : ∃ x0 y0 x1 y1, IsHull bs x0 y0 x1 y1 := by
  obtain ⟨x0, h1, h2⟩ := min_ex (bs.map Bx.a) (by simpa using h)
  obtain ⟨y0, h3, h4⟩ := min_ex (bs.map Bx.b) (by simpa using h)
  obtain ⟨x1, h5, h6⟩ := max_ex (bs.map Bx.c) (by simpa using h)
  obtain ⟨y1, h7, h8⟩ := max_ex (bs.map Bx.d) (by simpa using h)
  exact ⟨x0, y0, x1, y1, h1, h2, h3, h4, h5, h6, h7, h8⟩
/-- a drawn box, scaled -/
def boxOf (a b : Int) : Bx := ⟨bx0 a, by0 a, bx1 a, by1 a b⟩
def Bx.scl (x : Bx) (a b : Int) : Bx := ⟨x.a * a + b, x.b * a + b, x.c * a + b, x.d * a + b⟩
end DL

/-! Sets of squares: dicts whose keys are pairs, all of them True. -/
namespace DL
open PySem PySem.Spec PyProof.Rows L2
abbrev Sq := Int × Int
def kq (p : Sq) : List Key := [.inl p.1, .inl p.2]
abbrev dq (p : Sq) : D := .tup [.int p.1, .int p.2]
def dicD (ks : List Sq) : OC := .dt (ks.map kq) ((ks.map fun _ => true).map D.bl)
def insK (ks : List Sq) (p : Sq) : List Sq := if p ∈ ks then ks else ks ++ [p]
theorem kq_inj {p q : Sq} : kq p = kq q ↔ p = q := by
  constructor
  · intro h
    simp only [kq, List.cons.injEq, Sum.inl.injEq, and_true] at h
    exact Prod.ext h.1 h.2
  · rintro rfl; rfl
def tT (ks : List Sq) : List (List Key × V) := ks.map fun q => (kq q, V.bl true)
theorem zipT (ks : List Sq) : (ks.map kq).zip ((ks.map fun _ => true).map V.bl) = tT ks := by
  induction ks with
  | nil => rfl
  | cons k ks ih => simp only [List.map_cons, List.zip_cons_cons, ih]; rfl
theorem tT_any (ks : List Sq) (p : Sq) : ((tT ks).any fun kv => decide (kv.1 = kq p)) = decide (p ∈ ks) := by
  induction ks with
  | nil => rfl
  | cons k ks ih =>
    have e : tT (k :: ks) = (kq k, V.bl true) :: tT ks := rfl
    rw [e, List.any_cons, ih, Bool.eq_iff_iff]
    simp only [Bool.or_eq_true, decide_eq_true_eq, List.mem_cons, kq_inj]
    exact or_congr ⟨Eq.symm, Eq.symm⟩ Iff.rfl
theorem tT_val (ks : List Sq) (p : Sq) : (valV (tT ks) (kq p)).isSome = decide (p ∈ ks) := by
  rw [← valV_any, tT_any]
theorem tT_put (ks : List Sq) (p : Sq) : putK (tT ks) (kq p) (.bl true) = tT (insK ks p) := by
  unfold putK
  rw [tT_any]
  unfold insK
  by_cases h : p ∈ ks
  · rw [if_pos (decide_eq_true h), if_pos h]
    unfold tT
    rw [List.map_map]
    refine List.map_congr_left fun q _ => ?_
    show (if kq q = kq p then _ else _) = _
    split <;> rfl
  · rw [if_neg (by simpa using h), if_neg h]
    unfold tT
    rw [List.map_append]; rfl
theorem ocr_dic {K : PySem.W.Frag} {H0 : Hp} {ks : List Sq} {o : HO} : OCR K H0 (dicD ks) o ↔ o = .dT (tT ks) := by
  constructor
  · rintro ⟨vs, rfl, hl, r⟩
    rw [DRs.bls r, zipT]
  · rintro rfl
    refine ⟨(ks.map fun _ => true).map V.bl, by rw [zipT], by simp, ?_⟩
    generalize ks.map (fun _ => true) = bs
    induction bs with
    | nil => rfl
    | cons b bs ih => exact ⟨_, _, rfl, rfl, ih⟩
theorem dr_dic {K : PySem.W.Frag} {H0 : Hp} {ks : List Sq} {v : V} (h : DR K H0 (dicD ks).d v) : ∃ a, v = .ref a ∧ Rd H0 a (.dT (tT ks)) := by
  obtain ⟨a, vs, rfl, h1, hl, r⟩ := h
  rw [DRs.bls r, zipT] at h1
  exact ⟨a, rfl, h1⟩
section
variable {X : Cx} {ρ : En} {Φ : Out → Prop} {pos : Pos}
theorem eo_dic : EO X ρ (.Dict [] [] pos) (dicD []) := eo_dt
/-- found[x, y] = True -/
theorem ws_putSq (i : Nat) {x : Str} {ks : List Sq} {a b : Int} {ex ey : Expr} {k1 j1 p1 p2 p3 p4} (hi : ρ[i]? = some (.ow (dicD ks))) (hx : ED X ρ ex (.int a)) (hy : ED X ρ ey (.int b)) (hl : ks.length < sizeLine) (hu : X.A.units + 1 < cLine) (hΦ : Φ (.nx (ρ.set i (.ow (dicD (insK ks (a, b)))))))
    (hN : X.N[i]? = some x := by rfl) (hv : Vis X.env.scope x := by first | exact Or.inl rfl | exact Or.inr (Or.inl rfl) | exact Or.inr (Or.inr rfl)) (hd : (x == ("__debug__" : Str)) = false := by decide)
    (hcd : (x == ("__classdict__" : Str)) = false := by decide) (hs : swapsWith (.Constant (.bool true) j1 p4) (some (.Subscript (.Name x p1) (.Tuple [ex, ey] k1 p2) p3)) pos.line X.env = pure false := by rfl)
    (hs1 : starEach [ex, ey] X.env = (false, eval ex X.env) :: starEach [ey] X.env := by rfl) (hs2 : starEach [ey] X.env = (false, eval ey X.env) :: starEach [] X.env := by rfl) :
    WS X (.Assign [.Subscript (.Name x p1) (.Tuple [ex, ey] k1 p2) p3] (.Constant (.bool true) j1 p4) pos) ρ Φ := fun B0 B σ H0 H Dn j k => by
  obtain ⟨ov, e1, q, o, rfl, h1, h2, h3, h4⟩ := j.get hi
  refine ⟨_, ps_dput hu (pe_var hN hv hd hcd) (pe_tup pa_star) pe_bl hs, .ref q, e1, ?_⟩
  refine ad_cons (X := X) hx (ad_cons hy ad_nil hs2) hs1 B0 B σ H0 H _ j fun ws G0 G g rr => ?_
  obtain ⟨v, w, rfl, r1, r2⟩ := rr.two
  cases (show v = .int a from r1); cases (show w = .int b from r2)
  refine ⟨by simp only [List.length_cons, List.length_nil]; decide, fun t ht => ?_⟩
  have g2 : JH G0 G (upd G0 t (.tup [V.int a, V.int b])) (upd G t (.tup [V.int a, V.int b])) := JH.new g.sh ht
  have j2 := (j.grow g).grow g2
  obtain ⟨ov', e1', q', o', e2, h1', _, _, h4'⟩ := j2.get hi
  rw [e1] at e1'; cases e1'; cases e2
  cases ocr_dic.mp h4'
  refine ⟨q, _, rfl, DPut.t (k := kq (a, b)) h1' (by rw [upd_same]; rfl) (by unfold tT; rw [List.length_map]; exact hl), ?_⟩
  exact k _ hΦ _ _ _ (j2.write hi e1 (ocr_dic.mpr (by rw [tT_put])))
/-- square in d -/
theorem op_inSq (hu : X.A.units + 1 < cLine) : OpR X (compareOp .In) (fun x y H Q => ∃ (a b : Addr) (kvs : List (List Key × V)) (k : List Key), x = .ref b ∧ y = .ref a ∧ Rd H a (.dT kvs) ∧ SqT X.K H b (k.map kV) ∧ Q (.bl (valV kvs k).isSome) H) := by
  rintro pins s σ H x y v u Q I rx ry ⟨a, b, kvs, k, rfl, rfl, h1, h2, q⟩
  cases (show v = Value.ref b from rx); cases (show u = Value.ref a from ry)
  obtain ⟨z, hd, xs, rel, dd⟩ := dt_rd I.hok h1
  obtain ⟨its, r, ⟨o, e, c, n, dat⟩, _⟩ := I.tuple h2
  refine wpAny_in_heap (tupleKind_room_in1 hu) (k := k) ⟨o, its.toArray, n, e, c, dat, by simpa using items_are r⟩ hd dd ?_
  have qq := (rel.val k).isSome_eq
  rw [Option.isSome_map] at qq
  rw [← qq]
  exact ⟨.bl (valV kvs k).isSome, H, I.tok _, rfl, q⟩
theorem c2_inSq {p1 p2 : Int} {ks : List Sq} (hu : X.A.units + 64 < cLine) : C2 X .In (.tup [.int p1, .int p2]) (dicD ks).d (.bl (decide ((p1, p2) ∈ ks))) := ⟨_, op_inSq (by omega), fun H0 H x y Q s r1 r2 kk => by
  obtain ⟨b, vs, rfl, h1, r⟩ := r1
  obtain ⟨v, w, rfl, e1, e2⟩ := r.two
  cases (show v = .int p1 from e1); cases (show w = .int p2 from e2)
  obtain ⟨a, rfl, h2⟩ := dr_dic r2
  exact ⟨a, b, _, kq (p1, p2), rfl, rfl, Same.rd s h2, Same.seqT s h1, kk _ H0 H (JH.refl s) (by rw [tT_val]; rfl)⟩⟩
end

/-! ### a dict of its own, walked: it is locked meanwhile -/
def DWalkJ (K : PySem.W.Frag) (Jt : It) (H0 H : Hp) (ds : List D) : Prop := ∃ G Y, Walk Jt ds.length G Y ∧ (∀ L0 L, JH H0 H L0 L → G L) ∧
  ∀ i L0 L x L' d, ds[i]? = some d → JH H0 H L0 L → Y i L x L' → ∃ L0', JH L0 L L0' L' ∧ DR K L0' d x
theorem JH.key {L0 L : Hp} {q : Addr} {xs : List V} (s : Same L0 L) (h : L q = some (.tup xs)) : JH L0 L (upd L0 q (.tup xs)) L := by
  refine ⟨fun b u e => ?_, fun b u e => ?_, Same.refl _, fun b u e nt e' => ?_⟩
  · by_cases hb : b = q
    · subst hb; rw [upd_same]; rw [s b u e] at h; cases h; rfl
    · rw [upd_ne hb]; exact e
  · by_cases hb : b = q
    · subst hb; rw [upd_same] at e; cases e; exact h
    · rw [upd_ne hb] at e; exact s b u e
  · rw [upd_ne]
    · exact e'
    · rintro rfl
      rw [h] at e; cases e; exact nt
theorem key_turn {K : PySem.W.Frag} {L0 L : Hp} {ks : List Sq} {i : Nat} {d : D} {x : V} {k : List Key} {v : V} {q : Addr} (hd : (ks.map dq)[i]? = some d) (hk : (tT ks)[i]? = some (k, v)) (hx : x = .ref q) (s : Same L0 L) (h : L q = some (.tup (k.map kV))) :
    ∃ L0', JH L0 L L0' L ∧ DR K L0' d x := by
  unfold tT at hk
  rw [List.getElem?_map] at hd hk
  cases e : ks[i]? with
  | none => rw [e] at hd; cases hd
  | some p =>
    rw [e] at hd hk
    cases hd; cases hk
    subst hx
    exact ⟨_, JH.key s h, q, _, rfl, SqT.of upd_same, _, _, rfl, rfl, _, _, rfl, rfl, rfl⟩
theorem tT_len (ks : List Sq) : (tT ks).length = ks.length := by unfold tT; rw [List.length_map]
theorem dwj_sq {K : PySem.W.Frag} {H0 H : Hp} {a : Addr} {od : Obj} {ks : List Sq} (h : H a = some (.frz od (.dT (tT ks)))) : DWalkJ K (Itkt a od (tT ks)) H0 H (ks.map dq) := by
  refine ⟨_, _, (by rw [List.length_map, ← tT_len ks]; exact walk_keysT), fun L0 L g => g.sB _ _ h, fun i L0 L x L' d hd g y => ?_⟩
  obtain ⟨rfl, k, v, q, h1, h2, h3⟩ := y
  exact key_turn hd h1 h2 g.sh h3
section
variable {X : Cx} {ρ ρ' : En} {Φ : Out → Prop} {pos : Pos}
variable {elt tg iter : Expr} {ifs : List Expr} {scope : Scope} {own : List (Str × Nat)} {ds : List D}
theorem lc_readJ {B0 B : Hp} {σ : L2.St} {H0 H : Hp} {Q : VK} (hi : ∀ R, (∀ Jt H0' H', JH H0 H H0' H' → DWalkJ X.K Jt H0' H' ds → R Jt H') → RI X tg iter σ H R) (ys : List (Option D)) (hlen : ys.length = ds.length) (turn : ∀ (i : Nat) d y, ds[i]? = some d → ys[i]? = some y → Turn1 X ρ scope (own.map (·.2)) tg elt ifs d y) (hl : ds.length ≤ sizeLine) (j : J X.K B0 B σ H0 H ρ)
    (k : ∀ a o H0' H', JH H0 H H0' H' → H' a = some o → H0' a = none → H a = none → OCR X.K H0' (.lst (ys.filterMap id)) o → Q (.ref a) H') : TLc X scope own tg elt iter ifs σ H Q := by
  refine hi _ fun Jt G0 G g0 ⟨GG, Y, w, hG, hY⟩ => fun Dn hD => ?_
  have j0 := j.grow g0
  refine lc_it (g := GB X scope tg) (tt := TB X scope ifs) (te := EB X scope elt) (vs := own.map (·.2)) (Qd := fun H => Q (.ref Dn) H) w (fun i H1 => ∃ L0 acc, JH G0 G L0 H1 ∧ H1 Dn = some (.lst acc) ∧ L0 Dn = none ∧ DRs X.K L0 ((ys.take i).filterMap id) acc) ⟨G0, [], JH.own g0.sh hD, upd_same, g0.sh.free hD, rfl⟩ (fun i H1 _ ⟨L0, acc, g1, _⟩ => hG L0 H1 g1) ?_ ?_
  · rintro i x H1 H1' hi ⟨L0, acc, g1, hDn, hD0, racc⟩ hy
    obtain ⟨d, hd⟩ : ∃ d, ds[i]? = some d := ⟨ds[i], by simp [hi]⟩
    obtain ⟨L1, g2, rx⟩ := hY i L0 H1 x H1' d hd g1 hy
    obtain ⟨yo, hyo⟩ : ∃ y, ys[i]? = some y := ⟨ys[i]'(by omega), by simp [show i < ys.length by omega]⟩
    obtain ⟨ρ', hlen', turn⟩ := turn i d yo hd hyo
    have j1 := ((j0.grow g1).grow g2).wipe (own.map (·.2))
    have hacc : acc.length < sizeLine := by
      have h1 := DRs.length racc
      have h2 := filterMap_len id ys i
      omega
    intro s Hs C cl fp
    refine (turn s Hs C cl fp).1 B0 B _ L1 H1' x _ j1 rx fun σ2 j2 off => ⟨wipe_back (by rw [j2.len, hlen', ← wipeE_length ρ (own.map (·.2)), ← j1.len, wipe_length]) off, ?_⟩
    have gg := g1.trans g2
    have hDn' : H1' Dn = some (.lst acc) := g2.sB _ _ hDn
    have hD0' : L1 Dn = none := g2.fr _ _ hDn trivial hD0
    have eT := filterMap_take id ys i yo hyo
    cases yo with
    | none =>
      intro s Hs C cl fp
      have t2 := (turn s Hs C cl fp).2
      refine t2 B0 B σ2 L1 H1' _ j2 fun M0 M g3 => iteF ⟨M0, acc, gg.trans g3, g3.sB _ _ hDn', g3.fr _ _ hDn' trivial hD0', ?_⟩
      rw [eT]
      simpa using DRs.mono (g2.trans g3).s0 _ _ racc
    | some z =>
      intro s Hs C cl fp
      have t2 := (turn s Hs C cl fp).2
      refine t2.1 B0 B σ2 L1 H1' _ j2 fun M0 M g3 => iteT fun s Hs C cl fp => ?_
      have t3 := (turn s Hs C cl fp).2
      refine t3.2 B0 B σ2 M0 M _ (j2.grow g3) fun y N0 N g4 ry => ?_
      have g34 := g3.trans g4
      have h4 : N Dn = some (.lst acc) := g34.sB _ _ hDn'
      have h40 : N0 Dn = none := g34.fr _ _ hDn' trivial hD0'
      have gl := gg.trans g34
      refine ⟨acc, h4, hacc, N0, acc ++ [y], ⟨gl.s0, fun b u e => upd_keep (gl.sh b u e) (ne_of_none e h40), fun b u e => upd_keep (gl.sB b u e) (ne_of_none e hD), gl.fr⟩, upd_same, h40, ?_⟩
      rw [eT]
      exact DRs.app (DRs.mono (g2.trans g34).s0 _ _ racc) (DRs.one ry)
  · rintro H1 ⟨L0, acc, g1, hDn, hD0, racc⟩
    rw [List.take_of_length_le (Nat.le_of_eq hlen)] at racc
    exact k Dn _ L0 H1 (g0.trans g1) hDn hD0 (g0.sB.free hD) ⟨acc, rfl, racc⟩
/-- what a slot owns, locked -/
theorem J.lockSq {K : PySem.W.Frag} {B0 B : Hp} {σ : L2.St} {H0 H : Hp} (j : J K B0 B σ H0 H ρ) {i : Nat} {ks : List Sq} (hi : ρ[i]? = some (.ow (dicD ks))) :
    ∃ a, σ[i]? = some (some (.ref a)) ∧ H a = some (.dT (tT ks)) ∧ H0 a = none ∧ B a = none ∧ ∀ od, J K B0 B σ H0 (upd H a (.frz od (.dT (tT ks)))) (ρ.set i .no) := by
  obtain ⟨ov, e1, a, o, rfl, h1, h2, h3, h4⟩ := j.get hi
  cases ocr_dic.mp h4
  refine ⟨a, e1, h1, h2, h3, fun od => ?_⟩
  have q := (j.write (c' := .ft (ks.map kq) ((ks.map fun _ => true).map D.bl)) (o := .frz od (.dT (tT ks))) hi e1 ?_).drop i
  · rwa [List.set_set] at q
  · obtain ⟨vs, e, hl, r⟩ := h4
    injection e with e
    exact ⟨vs, od, by rw [e], hl, r⟩
theorem JH.unlock {H0 H H0' H' : Hp} {a : Addr} {od : Obj} {u : HO} (h : H a = some u) (h0 : H0 a = none) (g : JH H0 (upd H a (.frz od u)) H0' H') : H' a = some (.frz od u) ∧ JH H0 H H0' (upd H' a u) := by
  have f := g.fr a _ upd_same trivial h0
  refine ⟨g.sB a _ upd_same, g.s0, fun b x e => upd_keep (g.sh b x e) (ne_of_none e f), fun b x e => ?_, fun b x e nt e' => ?_⟩
  · by_cases hb : b = a
    · subst hb; rw [upd_same, ← h, e]
    · rw [upd_ne hb]; exact g.sB b x (by rw [upd_ne hb]; exact e)
  · by_cases hb : b = a
    · subst hb; exact f
    · exact g.fr b x (by rw [upd_ne hb]; exact e) nt e'
variable {cpos : Pos}
/-- [.. for .. in d], d a dict of its own -/
theorem eo_lcSq (i : Nat) {x : Str} {p1 : Pos} {ks : List Sq} (own : List (Str × Nat)) (hc : X.calm = true) (hN : X.N.Nodup) (ok : BlkOk X.N X.env.scope scope own) (hρ : ρ[i]? = some (.ow (dicD ks))) (ys : List (Option D)) (hlen : ys.length = ks.length) (turn : ∀ (n : Nat) d y, (ks.map dq)[n]? = some d → ys[n]? = some y → Turn1 X (ρ.set i .no) scope (own.map (·.2)) tg elt ifs d y) (hl : ks.length ≤ sizeLine)
    (hNi : X.N[i]? = some x := by rfl) (hv : Vis X.env.scope x := by first | exact Or.inl rfl | exact Or.inr (Or.inl rfl) | exact Or.inr (Or.inr rfl)) (hd : (x == ("__debug__" : Str)) = false := by decide) (hcd : (x == ("__classdict__" : Str)) = false := by decide)
    (hs : ∀ z, foldedSetIterable (.Name x p1) X.env z = pure z := by intro _; rfl) : EO X ρ (.ListComp elt [⟨tg, .Name x p1, ifs, 0⟩] scope cpos) (.lst (ys.filterMap id)) := fun B0 B σ H0 H Q j k => by
  obtain ⟨a, e1, h1, h2, h3, jl⟩ := j.lockSq hρ
  refine RE.of (pe_lock (pe_lc hc hN pi_star ok (g := GB X scope tg) (tt := TB X scope ifs) (te := EB X scope elt)
    (fun s H C cl fp => ⟨fun pins s1 σ1 H1 v u Q1 I r h => (pg_star (tg := tg)).run pins s1 σ1 H1 v u Q1 I r (h s H C cl fp)⟩)
    (fun s H C cl fp => ⟨fun pins s1 σ1 H1 Q1 I h => by obtain ⟨t, h1, h2⟩ := h s H C cl fp; exact h1.run pins s1 σ1 H1 Q1 I h2⟩)
    (fun s H C cl fp => ⟨fun pins s1 σ1 H1 Q1 I h => (pe_star (e := elt)).run pins s1 σ1 H1 Q1 I (h s H C cl fp)⟩) hs)) ?_
  refine ⟨a, _, h1, trivial, fun od => ?_⟩
  refine lc_readJ (ds := ks.map dq) (fun R hR => ⟨_, pi_keys (pe_var hNi hv hd hcd), .ref a, e1, a, od, rfl, .inr ⟨tT ks, upd_same, hR _ H0 _ (JH.refl (jl od).same) (dwj_sq upd_same)⟩⟩) ys (by rw [List.length_map]; exact hlen) turn (by rw [List.length_map]; exact hl) (jl od) fun b o H0' H' g e2 e3 e4 r => ?_
  have gu := JH.unlock h1 h2 g
  have nb : b ≠ a := fun z => by rw [z, upd_same] at e4; cases e4
  rw [upd_ne nb] at e4
  exact ⟨gu.1, k b o H0' _ gu.2 (by rw [upd_ne nb]; exact e2) e3 e4 r⟩
theorem eo_filterSq (i : Nat) {x : Str} {p1 : Pos} {ks : List Sq} (own : List (Str × Nat)) (p : Sq → Bool) (hc : X.calm = true) (hN : X.N.Nodup) (ok : BlkOk X.N X.env.scope scope own) (hρ : ρ[i]? = some (.ow (dicD ks))) (turn : ∀ q ∈ ks, Turn1 X (ρ.set i .no) scope (own.map (·.2)) tg elt ifs (dq q) (if p q = true then some (dq q) else none)) (hl : ks.length ≤ sizeLine)
    (hNi : X.N[i]? = some x := by rfl) (hv : Vis X.env.scope x := by first | exact Or.inl rfl | exact Or.inr (Or.inl rfl) | exact Or.inr (Or.inr rfl)) (hd : (x == ("__debug__" : Str)) = false := by decide) (hcd : (x == ("__classdict__" : Str)) = false := by decide)
    (hs : ∀ z, foldedSetIterable (.Name x p1) X.env z = pure z := by intro _; rfl) : EO X ρ (.ListComp elt [⟨tg, .Name x p1, ifs, 0⟩] scope cpos) (.lst ((ks.filter p).map dq)) := by
  have h := eo_lcSq (p1 := p1) (cpos := cpos) i own hc hN ok hρ (ks.map fun q => if p q = true then some (dq q) else none) (by simp) (turns_if rfl turn) hl hNi hv hd hcd hs
  rwa [filterMap_if] at h
end
end DL

/-! for .. in d, d a dict of its own. -/
namespace DL
open PySem PySem.Spec PyProof.Rows L2
section
variable {K : PySem.W.Frag} {B0 B H0 H : Hp} {σ σ1 : L2.St} {ρ ρ1 : En} {a : Addr} {od : Obj} {u : HO}
theorem JH.unlockB (j : JH B0 B H0 H) (h1 : H a = some u) (h2 : H0 a = none) (h3 : B a = none) {L0 H1 : Hp} (g : JH H0 (upd H a (.frz od u)) L0 H1) : H1 a = some (.frz od u) ∧ L0 a = none ∧ JH B0 B L0 (upd H1 a u) := by
  have f := g.fr a _ upd_same trivial h2
  refine ⟨g.sB a _ upd_same, f, j.s0.trans g.s0, fun b x e => upd_keep (g.sh b x e) (ne_of_none e f), fun b x e => ?_, fun b x e nt e' => ?_⟩
  · have hb : b ≠ a := ne_of_none e h3
    rw [upd_ne hb]
    exact g.sB b x (by rw [upd_ne hb]; exact j.sB b x e)
  · have hb : b ≠ a := ne_of_none e h3
    exact g.fr b x (by rw [upd_ne hb]; exact j.sB b x e) nt (j.fr b x e nt e')
theorem J.unlockB (j : JH B0 B H0 H) (h1 : H a = some u) (h2 : H0 a = none) (h3 : B a = none) {L0 H1 : Hp} (j1 : J K H0 (upd H a (.frz od u)) σ1 L0 H1 ρ1) : J K B0 B σ1 L0 (upd H1 a u) ρ1 := by
  refine ⟨(j.unlockB h1 h2 h3 j1.hp).2.2, j1.len, fun i s ov e1 e2 => ?_, j1.dis⟩
  have q := j1.sl i s ov e1 e2
  cases s with
  | no => trivial
  | sh d => exact q
  | ow c =>
    obtain ⟨b, o, f1, f2, f3, f4, f5⟩ := q
    have nb : b ≠ a := fun z => by rw [z, upd_same] at f4; cases f4
    rw [upd_ne nb] at f4
    exact ⟨b, o, f1, by rw [upd_ne nb]; exact f2, f3, j.sB.free f4, f5⟩
  | ox cs d =>
    refine ⟨q.1, fun p hp => ?_, q.2.2⟩
    obtain ⟨o, f2, f3, f4, f5⟩ := (q.2.1 p hp).ex
    have nb : p.1 ≠ a := fun z => by rw [z, upd_same] at f4; cases f4
    rw [upd_ne nb] at f4
    exact ⟨o, by rw [upd_ne nb]; exact f2, f3, j.sB.free f4, f5⟩
/-- no slot owns anything -/
def noOw : En → Bool
  | [] => true
  | .ow _ :: _ => false
  | .ox _ _ :: _ => false
  | _ :: r => noOw r
theorem noOw_kind : ∀ {ρ : En}, noOw ρ = true → ∀ (i : Nat) s, ρ[i]? = some s → s = .no ∨ ∃ d, s = .sh d
  | [], _, i, s, h => by simp at h
  | .ow _ :: _, h, i, s, _ => by simp [noOw] at h
  | .ox _ _ :: _, h, i, s, _ => by simp [noOw] at h
  | .no :: r, h, 0, s, e => by simp at e; exact .inl e.symm
  | .sh d :: r, h, 0, s, e => by simp at e; exact .inr ⟨d, e.symm⟩
  | .no :: r, h, i + 1, s, e => noOw_kind (ρ := r) h i s (by simpa using e)
  | .sh _ :: r, h, i + 1, s, e => noOw_kind (ρ := r) h i s (by simpa using e)
theorem J.based (j : J K B0 B σ H0 H ρ) (h : noOw ρ = true) : J K H0 H σ H0 H ρ := by
  refine ⟨JH.refl j.same, j.len, fun i s ov e1 e2 => ?_, j.dis⟩
  have q := j.sl i s ov e1 e2
  rcases noOw_kind h i s e1 with rfl | ⟨d, rfl⟩
  · trivial
  · exact q
end
section
variable {X : Cx} {ρ ρ' : En} {Φ : Out → Prop} {pos : Pos}
/-- for .. in d, d a dict that slot i owns; no other slot owns a thing -/
theorem ws_forSq (i : Nat) {x : Str} {p1 : Pos} {ks : List Sq} {tg : Expr} {body : List Stmt} (hc : X.calm = true) (hρ : ρ[i]? = some (.ow (dicD ks))) (hno : noOw (ρ.set i .no) = true) (I : Nat → En → Prop) (h0 : I 0 (ρ.set i .no))
    (hs : ∀ n q ρ', ks[n]? = some q → I n ρ' → ∃ is ρ'', DG X is tg (dq q) ρ' ρ'' ∧ WSs X body ρ'' (fun o => match o with | .nx r => I (n + 1) r | .ct r => I (n + 1) r | .bk r => Φ (.nx r) | .rt v => Φ (.rt v) | .ro c => Φ (.ro c) | .rc v cs => False)) (hd : ∀ ρ', I ks.length ρ' → Φ (.nx ρ'))
    (hNi : X.N[i]? = some x := by rfl) (hv : Vis X.env.scope x := by first | exact Or.inl rfl | exact Or.inr (Or.inl rfl) | exact Or.inr (Or.inr rfl)) (hdb : (x == ("__debug__" : Str)) = false := by decide) (hcd : (x == ("__classdict__" : Str)) = false := by decide)
    (hp : PassesOwn (model X.prog X.w) X.A X.env X.xe := by exact PassesOwn.never) (hf : ∀ z, foldedSetIterable (.Name x p1) X.env z = pure z := by intro _; rfl) : WS X (.For tg (.Name x p1) body [] pos) ρ Φ := fun B0 B σ H0 H Dn j k => by
  obtain ⟨a, e1, h1, h2, h3, jl⟩ := j.lockSq hρ
  refine ⟨_, ps_lock (ps_for hp hc (pi_keys (pe_var hNi hv hdb hcd)) pg_star pss_star hf), a, _, h1, trivial, fun od => ⟨.ref a, e1, a, od, rfl, .inr ⟨tT ks, upd_same, ?_⟩⟩⟩
  have w := walk_keysT (d := a) (o := od) (kvs := tT ks)
  rw [tT_len] at w
  refine for_it w (fun n σ' H1 => ∃ ρ' L0, I n ρ' ∧ J X.K H0 (upd H a (.frz od (.dT (tT ks)))) σ' L0 H1 ρ') ⟨_, H0, h0, (jl od).based hno⟩ (fun n σ' H1 _ ⟨ρ', L0, _, j1⟩ => j1.hp.sB _ _ upd_same) ?_ ?_
  · rintro n v σ1 H1 H1' hn ⟨ρ1, L0, hI, j1⟩ ⟨rfl, kk, vv, q, y1, y2, y3⟩
    obtain ⟨sq, hsq⟩ : ∃ s, ks[n]? = some s := ⟨ks[n], by simp [hn]⟩
    obtain ⟨L1, g2, rx⟩ := key_turn (K := X.K) (show (ks.map dq)[n]? = some (dq sq) by rw [List.getElem?_map, hsq]; rfl) y1 y2 j1.hp.sh y3
    obtain ⟨is, ρ2, hg, hb⟩ := hs n sq ρ1 hsq hI
    refine hg H0 _ σ1 L1 H1' v _ (j1.grow g2) rx fun σ2 j2 _ => ?_
    refine hb H0 _ σ2 L1 H1' _ j2 fun o ho => ?_
    cases o with
    | nx r => exact fun σ3 M0 M j3 => ⟨r, M0, ho, j3⟩
    | ct r => exact fun σ3 M0 M j3 => ⟨r, M0, ho, j3⟩
    | bk r => exact fun σ3 M0 M j3 => ⟨(j.hp.unlockB h1 h2 h3 j3.hp).1, k _ ho σ3 M0 _ (J.unlockB j.hp h1 h2 h3 j3)⟩
    | rt d => exact fun v' M0 M g r => ⟨(j.hp.unlockB h1 h2 h3 g).1, k _ ho v' M0 _ (j.hp.unlockB h1 h2 h3 g).2.2 r⟩
    | ro c =>
      exact fun b o M0 M g f1 f2 f3 r => by
        have nb : b ≠ a := fun z => by rw [z, upd_same] at f3; cases f3
        rw [upd_ne nb] at f3
        exact ⟨(j.hp.unlockB h1 h2 h3 g).1, k _ ho b o M0 _ (j.hp.unlockB h1 h2 h3 g).2.2 (by rw [upd_ne nb]; exact f1) f2 (j.hp.sB.free f3) r⟩
    | rc v cs => exact ho.elim
  · rintro σ1 H1 ⟨ρ1, L0, hI, j1⟩
    exact ⟨(j.hp.unlockB h1 h2 h3 j1.hp).1, k _ (hd ρ1 hI) σ1 L0 _ (J.unlockB j.hp h1 h2 h3 j1)⟩
/-- .. told slot by slot, as ws_forU -/
theorem ws_forSqU (i : Nat) {x : Str} {p1 : Pos} {ks : List Sq} {U : Type} {tg : Expr} {body : List Stmt} (hc : X.calm = true) (hρ : ρ[i]? = some (.ow (dicD ks))) (hno : noOw (ρ.set i .no) = true) (G : Nat → U → List (Nat × Sl)) (V : En → U) (P : Nat → Prop) (hV : upds (ρ.set i .no) (G 0 (V (ρ.set i .no))) = ρ.set i .no) (h0 : P 0)
    (hs : ∀ n q u, ks[n]? = some q → P n → ∃ is ρ'', DG X is tg (dq q) (upds (ρ.set i .no) (G n u)) ρ'' ∧ WSs X body ρ'' (fun o => match o with | .nx r => upds (ρ.set i .no) (G (n + 1) (V r)) = r ∧ P (n + 1) | .ct r => upds (ρ.set i .no) (G (n + 1) (V r)) = r ∧ P (n + 1) | .bk r => Φ (.nx r) | .rt v => Φ (.rt v) | .ro c => Φ (.ro c) | .rc v cs => False))
    (hd : ∀ u, P ks.length → Φ (.nx (upds (ρ.set i .no) (G ks.length u))))
    (hNi : X.N[i]? = some x := by rfl) (hv : Vis X.env.scope x := by first | exact Or.inl rfl | exact Or.inr (Or.inl rfl) | exact Or.inr (Or.inr rfl)) (hdb : (x == ("__debug__" : Str)) = false := by decide) (hcd : (x == ("__classdict__" : Str)) = false := by decide)
    (hp : PassesOwn (model X.prog X.w) X.A X.env X.xe := by exact PassesOwn.never) (hf : ∀ z, foldedSetIterable (.Name x p1) X.env z = pure z := by intro _; rfl) : WS X (.For tg (.Name x p1) body [] pos) ρ Φ := by
  refine ws_forSq i hc hρ hno (fun n r => (∃ u, upds (ρ.set i .no) (G n u) = r) ∧ P n) ⟨⟨_, hV⟩, h0⟩ (fun n q r hx hI => ?_) (fun r hI => ?_) hNi hv hdb hcd hp hf
  · obtain ⟨⟨u, rfl⟩, p⟩ := hI
    obtain ⟨is, r2, g1, g2⟩ := hs n q u hx p
    refine ⟨is, r2, g1, ws_mono g2 fun o ho => ?_⟩
    cases o with
    | nx r => exact ⟨⟨_, ho.1⟩, ho.2⟩
    | ct r => exact ⟨⟨_, ho.1⟩, ho.2⟩
    | bk r => exact ho
    | rt v => exact ho
    | ro c => exact ho
    | rc v cs => exact ho.elim
  · obtain ⟨⟨u, rfl⟩, p⟩ := hI
    exact hd u p
end
end DL
namespace DL
open PySem PySem.Spec PyProof.Rows L2
theorem td_inSqO {X : Cx} {ρ : En} {a : Expr} {pos p1 : Pos} (i : Nat) {x : Str} {ks : List Sq} {m n : Int} (hu : X.A.units + 64 < cLine) (hρ : ρ[i]? = some (.ow (dicD ks))) (ha : ED X ρ a (.tup [.int m, .int n])) (hN : X.N[i]? = some x := by rfl)
    (hv : Vis X.env.scope x := by first | exact Or.inl rfl | exact Or.inr (Or.inl rfl) | exact Or.inr (Or.inr rfl)) (hd : (x == ("__debug__" : Str)) = false := by decide) (hcd : (x == ("__classdict__" : Str)) = false := by decide) (hm : behindInMarks .In (.Name x p1) = false := by first | exact nomark _ | rfl) :
    TD X ρ (.Compare a [.In] [.Name x p1] pos) (decide ((m, n) ∈ ks)) := fun B0 B σ H0 H Q j kk => by
  refine RT.of (pt_cmpR (op_inSq (by omega)) pe_star (pe_var hN hv hd hcd) hm) (ha B0 B σ H0 H _ j fun v G0 G g r => ?_)
  obtain ⟨ov, e1, q, o, rfl, h1, h2, h3, h4⟩ := (j.grow g).get hρ
  cases ocr_dic.mp h4
  obtain ⟨b, vs, rfl, f1, r⟩ := r
  obtain ⟨u, w, rfl, e2, e3⟩ := r.two
  cases (show u = .int m from e2); cases (show w = .int n from e3)
  exact ⟨.ref q, e1, q, b, _, kq (m, n), rfl, rfl, .inl h1, Same.seqT g.sh f1, _, rfl, by rw [tT_val]; exact kk G0 G g⟩
end DL

/-! Squares of boxes. -/
namespace DL
open PySem
theorem insK_len (ks : List Sq) (p : Sq) : (insK ks p).length ≤ ks.length + 1 := by unfold insK; split <;> simp
theorem mem_insK {ks : List Sq} {p q : Sq} : q ∈ insK ks p ↔ q ∈ ks ∨ q = p := by
  unfold insK
  split
  · exact ⟨.inl, fun h => h.elim id fun e => by subst e; assumption⟩
  · simp
/-- a row, a box, boxes: the first i steps -/
def rowF (y lo : Int) (acc : List Sq) (i : Nat) : List Sq := (List.range i).foldl (fun a (k : Nat) => insK a (lo + (k : Int), y)) acc
theorem rowF_succ (y lo : Int) (acc : List Sq) (i : Nat) : rowF y lo acc (i + 1) = insK (rowF y lo acc i) (lo + (i : Int), y) := by
  unfold rowF; rw [List.range_succ, List.foldl_append]; rfl
theorem rowF_len (y lo : Int) (acc : List Sq) : ∀ i, (rowF y lo acc i).length ≤ acc.length + i
  | 0 => by simp [rowF]
  | i + 1 => by rw [rowF_succ]; have := rowF_len y lo acc i; have := insK_len (rowF y lo acc i) (lo + (i : Int), y); omega
theorem mem_rowF {y lo : Int} {acc : List Sq} {q : Sq} : ∀ {i : Nat}, q ∈ rowF y lo acc i ↔ q ∈ acc ∨ (q.2 = y ∧ lo ≤ q.1 ∧ q.1 < lo + i)
  | 0 => by simp [rowF]; intro _ _; omega
  | i + 1 => by
    rw [rowF_succ, mem_insK, mem_rowF (i := i)]
    constructor
    · rintro ((h | h) | rfl)
      · exact .inl h
      · exact .inr ⟨h.1, h.2.1, by omega⟩
      · exact .inr ⟨rfl, by show lo ≤ lo + (i : Int); omega, by show lo + (i : Int) < lo + ((i + 1 : Nat) : Int); omega⟩
    · rintro (h | h)
      · exact .inl (.inl h)
      · by_cases e : q.1 = lo + i
        · exact .inr (Prod.ext e h.1)
        · exact .inl (.inr ⟨h.1, h.2.1, by omega⟩)
def boxF (b : Bx) (acc : List Sq) (j : Nat) : List Sq := (List.range j).foldl (fun a (k : Nat) => rowF (b.b + (k : Int)) b.a a (b.c - b.a).toNat) acc
theorem boxF_succ (b : Bx) (acc : List Sq) (j : Nat) : boxF b acc (j + 1) = rowF (b.b + (j : Int)) b.a (boxF b acc j) (b.c - b.a).toNat := by
  unfold boxF; rw [List.range_succ, List.foldl_append]; rfl
theorem boxF_len (b : Bx) (acc : List Sq) : ∀ j, (boxF b acc j).length ≤ acc.length + j * (b.c - b.a).toNat
  | 0 => by simp [boxF]
  | j + 1 => by
    rw [boxF_succ]
    have h1 := boxF_len b acc j
    have h2 := rowF_len (b.b + (j : Int)) b.a (boxF b acc j) (b.c - b.a).toNat
    rw [Nat.add_mul]; omega
theorem mem_boxF {b : Bx} {acc : List Sq} {q : Sq} : ∀ {j : Nat}, q ∈ boxF b acc j ↔ q ∈ acc ∨ ((b.a ≤ q.1 ∧ q.1 < b.c) ∧ b.b ≤ q.2 ∧ q.2 < b.b + j)
  | 0 => by simp [boxF]; intro _ _ _; omega
  | j + 1 => by
    rw [boxF_succ, mem_rowF, mem_boxF (j := j)]
    constructor
    · rintro ((h | h) | h)
      · exact .inl h
      · exact .inr ⟨h.1, h.2.1, by omega⟩
      · exact .inr ⟨⟨h.2.1, by omega⟩, by omega, by omega⟩
    · rintro (h | h)
      · exact .inl (.inl h)
      · by_cases e : q.2 = b.b + j
        · exact .inr ⟨e, h.1.1, by omega⟩
        · exact .inl (.inr ⟨h.1, h.2.1, by omega⟩)
def sqF (bs : List Bx) (n : Nat) : List Sq := (bs.take n).foldl (fun a b => boxF b a (b.d - b.b).toNat) []
def sqs (bs : List Bx) : List Sq := bs.foldl (fun a b => boxF b a (b.d - b.b).toNat) []
theorem sqF_succ {bs : List Bx} {n : Nat} {b : Bx} (h : bs[n]? = some b) : sqF bs (n + 1) = boxF b (sqF bs n) (b.d - b.b).toNat := by
  unfold sqF; rw [List.take_add_one, h, List.foldl_append]; rfl
theorem sqF_all (bs : List Bx) : sqF bs bs.length = sqs bs := by unfold sqF sqs; rw [List.take_length]
/-- small enough to be walked -/
def SmB (b : Bx) : Prop := (-1000000 ≤ b.a ∧ b.a ≤ 1000000) ∧ (-1000000 ≤ b.c ∧ b.c ≤ 1000000) ∧ (-1000000 ≤ b.b ∧ b.b ≤ 1000000) ∧ (-1000000 ≤ b.d ∧ b.d ≤ 1000000) ∧ b.c - b.a ≤ 64 ∧ b.d - b.b ≤ 64
theorem sqF_len {bs : List Bx} (h : ∀ b ∈ bs, SmB b) : ∀ n, (sqF bs n).length ≤ n * 4096
  | 0 => by simp [sqF]
  | n + 1 => by
    have ih := sqF_len h n
    cases q : bs[n]? with
    | none =>
      have e : sqF bs (n + 1) = sqF bs n := by unfold sqF; rw [List.take_add_one, q]; simp
      rw [e]; omega
    | some b =>
      rw [sqF_succ q]
      have hb := h b (List.mem_of_getElem? q)
      have h1 := boxF_len b (sqF bs n) (b.d - b.b).toNat
      have h2 : (b.d - b.b).toNat * (b.c - b.a).toNat ≤ 64 * 64 := Nat.mul_le_mul (by unfold SmB at hb; omega) (by unfold SmB at hb; omega)
      omega
/-- .. within a box -/
theorem sq_room {bs : List Bx} {n j i : Nat} {b : Bx} (h : ∀ b ∈ bs, SmB b) (hb : SmB b) (hn : n ≤ 1000) (hj : j ≤ (b.d - b.b).toNat) (hi : i ≤ (b.c - b.a).toNat) (y : Int) : (rowF y b.a (boxF b (sqF bs n) j) i).length < 16777216 := by
  have h1 := sqF_len h n
  have h2 := boxF_len b (sqF bs n) j
  have h3 := rowF_len y b.a (boxF b (sqF bs n) j) i
  have h4 : j * (b.c - b.a).toNat ≤ 64 * 64 := Nat.mul_le_mul (by unfold SmB at hb; omega) (by unfold SmB at hb; omega)
  unfold SmB at hb
  omega
theorem mem_sqs1 {b : Bx} {q : Sq} : q ∈ sqs [b] ↔ (b.a ≤ q.1 ∧ q.1 < b.c) ∧ b.b ≤ q.2 ∧ q.2 < b.d := by
  show q ∈ boxF b [] (b.d - b.b).toNat ↔ _
  rw [mem_boxF]
  simp only [List.not_mem_nil, false_or]
  constructor
  · rintro ⟨h1, h2⟩; exact ⟨h1, by omega⟩
  · rintro ⟨h1, h2⟩; exact ⟨h1, by omega⟩
/-! neighbours -/
def nbs (q : Sq) : List Sq := [(q.1 + 1, q.2), (q.1 - 1, q.2), (q.1, q.2 + 1), (q.1, q.2 - 1)]
def nearF (ks ts : List Sq) (n : Nat) (t : List Sq) : Nat := ((ks.take n).flatMap nbs ++ t).countP (fun q => decide (q ∈ ts))
theorem nearF_step (ks ts : List Sq) (n : Nat) (t : List Sq) (p : Sq) : nearF ks ts n (t ++ [p]) = nearF ks ts n t + (if p ∈ ts then 1 else 0) := by
  unfold nearF
  rw [← List.append_assoc, List.countP_append]
  by_cases h : p ∈ ts <;> simp [h]
theorem nearF_next {ks ts : List Sq} {n : Nat} {q : Sq} (h : ks[n]? = some q) : nearF ks ts (n + 1) [] = nearF ks ts n (nbs q) := by
  unfold nearF
  rw [List.take_add_one, h, List.flatMap_append]
  simp
theorem nearF_pos {ks ts : List Sq} : 0 < nearF ks ts ks.length [] ↔ ∃ q ∈ ks, ∃ p ∈ nbs q, p ∈ ts := by
  unfold nearF
  rw [List.take_length, List.append_nil, List.countP_pos_iff]
  simp only [List.mem_flatMap, decide_eq_true_eq]
  constructor
  · rintro ⟨p, ⟨q, h1, h2⟩, h3⟩; exact ⟨q, h1, p, h2, h3⟩
  · rintro ⟨q, h1, p, h2, h3⟩; exact ⟨p, ⟨q, h1, h2⟩, h3⟩
theorem filt_nil {ks ts : List Sq} : (ks.filter fun q => decide (q ∈ ts)).length = 0 ↔ ¬ ∃ q ∈ ks, q ∈ ts := by
  rw [List.length_eq_zero_iff, List.filter_eq_nil_iff]
  simp
/-- they touch, by the squares -/
theorem touch_sq {a b c d e f g h : Int} (h1 : a < c) (h2 : b < d) (h3 : e < g) (h4 : f < h) :
    ((max a e = min c g ∧ max b f < min d h) ∨ (max a e < min c g ∧ max b f = min d h)) ↔ ((¬ ∃ q ∈ sqs [⟨e, f, g, h⟩], q ∈ sqs [⟨a, b, c, d⟩]) ∧ ∃ q ∈ sqs [⟨a, b, c, d⟩], ∃ p ∈ nbs q, p ∈ sqs [⟨e, f, g, h⟩]) := by
  simp only [mem_sqs1, nbs, List.mem_cons, List.not_mem_nil, or_false]
  constructor
  · intro t
    refine ⟨?_, ?_⟩
    · rintro ⟨⟨x, y⟩, q1, q2⟩
      simp only at q1 q2
      omega
    · rcases t with ⟨t1, t2⟩ | ⟨t1, t2⟩
      · by_cases w : e = c
        · exact ⟨(c - 1, max b f), by simp only; omega, (c - 1 + 1, max b f), .inl rfl, by simp only; omega⟩
        · exact ⟨(a, max b f), by simp only; omega, (a - 1, max b f), .inr (.inl rfl), by simp only; omega⟩
      · by_cases w : f = d
        · exact ⟨(max a e, d - 1), by simp only; omega, (max a e, d - 1 + 1), .inr (.inr (.inl rfl)), by simp only; omega⟩
        · exact ⟨(max a e, b), by simp only; omega, (max a e, b - 1), .inr (.inr (.inr rfl)), by simp only; omega⟩
  · rintro ⟨n, ⟨x, y⟩, q1, ⟨x', y'⟩, q2, q3⟩
    simp only [Prod.mk.injEq] at q1 q2 q3
    have m : ¬ (max a e < min c g ∧ max b f < min d h) := fun ⟨m1, m2⟩ => n ⟨(max a e, max b f), by simp only; omega, by simp only; omega⟩
    omega
theorem scl_max {s t x y : Int} (hs : 1 ≤ s) : max (x * s + t) (y * s + t) = max x y * s + t := by
  rcases Int.lt_trichotomy x y with h | h | h
  · have := (scl_lt (b := t) hs).mpr h
    rw [Int.max_eq_right (by omega), Int.max_eq_right (by omega)]
  · subst h; simp
  · have := (scl_lt (b := t) hs).mpr h
    rw [Int.max_eq_left (by omega), Int.max_eq_left (by omega)]
theorem scl_min {s t x y : Int} (hs : 1 ≤ s) : min (x * s + t) (y * s + t) = min x y * s + t := by
  rcases Int.lt_trichotomy x y with h | h | h
  · have := (scl_lt (b := t) hs).mpr h
    rw [Int.min_eq_left (by omega), Int.min_eq_left (by omega)]
  · subst h; simp
  · have := (scl_lt (b := t) hs).mpr h
    rw [Int.min_eq_right (by omega), Int.min_eq_right (by omega)]
theorem scl_eq {s t x y : Int} (hs : 1 ≤ s) : x * s + t = y * s + t ↔ x = y := by
  constructor
  · intro h
    rcases Int.lt_trichotomy x y with q | q | q
    · have := (scl_lt (b := t) hs).mpr q; omega
    · exact q
    · have := (scl_lt (b := t) hs).mpr q; omega
  · rintro rfl; rfl
theorem sqs_len {bs : List Bx} (h : ∀ b ∈ bs, SmB b) (hl : bs.length ≤ 1000) : (sqs bs).length ≤ sizeLine := by
  have := sqF_len h bs.length
  rw [sqF_all] at this
  rw [sizeLine_eq]; omega
theorem touch_b {a b c d e f g h s t : Int} (hs : 1 ≤ s) (h1 : a < c) (h2 : b < d) (h3 : e < g) (h4 : f < h) :
    ((decide (max (a * s + t) (e * s + t) = min (c * s + t) (g * s + t)) && decide (max (b * s + t) (f * s + t) < min (d * s + t) (h * s + t))) || (decide (max (a * s + t) (e * s + t) < min (c * s + t) (g * s + t)) && decide (max (b * s + t) (f * s + t) = min (d * s + t) (h * s + t)))) =
    (decide ((((((sqs [⟨e, f, g, h⟩]).filter fun q => decide (q ∈ sqs [⟨a, b, c, d⟩])).map dq).length : Nat) : Int) = 0) && decide ((0 : Int) < ((nearF (sqs [⟨a, b, c, d⟩]) (sqs [⟨e, f, g, h⟩]) (sqs [⟨a, b, c, d⟩]).length [] : Nat) : Int))) := by
  rw [scl_max hs, scl_max hs, scl_min hs, scl_min hs, Bool.eq_iff_iff]
  simp only [Bool.or_eq_true, Bool.and_eq_true, decide_eq_true_eq, List.length_map, scl_eq hs, scl_lt hs]
  rw [touch_sq h1 h2 h3 h4, ← filt_nil, ← nearF_pos]
  omega
theorem touch_b2 {a b c d e f g h s t : Int} (hs : 1 ≤ s) (h1 : a < c) (h2 : b < d) (h3 : e < g) (h4 : f < h) :
    ((decide (max (e * s + t) (a * s + t) = min (g * s + t) (c * s + t)) && decide (max (f * s + t) (b * s + t) < min (h * s + t) (d * s + t))) || (decide (max (e * s + t) (a * s + t) < min (g * s + t) (c * s + t)) && decide (max (f * s + t) (b * s + t) = min (h * s + t) (d * s + t)))) =
    (decide ((((((sqs [⟨e, f, g, h⟩]).filter fun q => decide (q ∈ sqs [⟨a, b, c, d⟩])).map dq).length : Nat) : Int) = 0) && decide ((0 : Int) < ((nearF (sqs [⟨a, b, c, d⟩]) (sqs [⟨e, f, g, h⟩]) (sqs [⟨a, b, c, d⟩]).length [] : Nat) : Int))) := by
  rw [← touch_b (t := t) hs h1 h2 h3 h4, Int.max_comm (e * s + t), Int.max_comm (f * s + t), Int.min_comm (g * s + t), Int.min_comm (h * s + t)]
def sel3 (p q r m : Int) : Int := if m = 0 then p else if m = 1 then q else r
theorem ix_sel3 {p q r m : Int} (h : 0 ≤ m ∧ m < 3) : IX (.lst [.int p, .int q, .int r]) (.int m) (.int (sel3 p q r m)) := by
  have : m = 0 ∨ m = 1 ∨ m = 2 := by omega
  rcases this with rfl | rfl | rfl
  · exact IX.l0
  · exact IX.l1
  · exact IX.l2
end DL

/-! Comprehensions with two for; items of a text. -/
namespace DL
open PySem PySem.Spec PyProof.Rows L2
section
variable {K : PySem.W.Frag} {B0 B H0 H L' H' : Hp} {σ : L2.St} {ρ : En}
theorem J.reseat (j : J K B0 B σ H0 H ρ) (no : noOw ρ = true) (s : Same H0 L') (hp : JH B0 B L' H') : J K B0 B σ L' H' ρ := by
  refine ⟨hp, j.len, fun i sl ov e1 e2 => ?_, j.dis⟩
  have q := j.sl i sl ov e1 e2
  rcases noOw_kind no i sl e1 with rfl | ⟨d, rfl⟩
  · trivial
  · obtain ⟨v, h1, h2⟩ := q; exact ⟨v, h1, DR.mono s _ _ h2⟩
/-- what is owned is forgotten -/
def dropOw : En → En := List.map fun s => match s with | .ow _ => .no | .ox _ d => .sh d | s => s
theorem dropOw_no : ∀ ρ : En, noOw (dropOw ρ) = true
  | [] => rfl
  | .no :: r => dropOw_no r
  | .sh _ :: r => dropOw_no r
  | .ow _ :: r => dropOw_no r
  | .ox _ _ :: r => dropOw_no r
theorem J.dropOw (j : J K B0 B σ H0 H ρ) : J K B0 B σ H0 H (DL.dropOw ρ) := by
  refine ⟨j.hp, by rw [j.len]; simp [DL.dropOw], fun i sl ov e1 e2 => ?_, fun i l s1 s2 o1 o2 a e1 _ _ _ w _ => absurd w (Owns.none (noOw_kind (dropOw_no ρ) i s1 e1) a)⟩
  unfold DL.dropOw at e1
  rw [List.getElem?_map] at e1
  cases q : ρ[i]? with
  | none => rw [q] at e1; cases e1
  | some s =>
    rw [q] at e1
    have r := j.sl i s ov q e2
    cases s with
    | no => cases e1; trivial
    | sh d => cases e1; exact r
    | ow c => cases e1; trivial
    | ox cs d => cases e1; exact r.1
end
theorem flat_take {α β : Type} (r : α → List β) {xs : List α} {i : Nat} {x : α} (h : xs[i]? = some x) : (xs.take (i + 1)).flatMap r = (xs.take i).flatMap r ++ r x := by
  rw [List.take_add_one, h, List.flatMap_append]; simp
theorem flat_room {α β : Type} (r : α → List β) {xs : List α} {i j : Nat} {x : α} (h : xs[i]? = some x) (hj : j < (r x).length) : ((xs.take i).flatMap r).length + j < (xs.flatMap r).length := by
  have e : xs.flatMap r = (xs.take (i + 1)).flatMap r ++ (xs.drop (i + 1)).flatMap r := by rw [← List.flatMap_append, List.take_append_drop]
  rw [e, flat_take r h]
  simp only [List.length_append]; omega
def IB (X : Cx) (scope : Scope) (tg iter : Expr) : TI := fun σ H R => ∀ (s : Shared) (H' : Hp) (C : Addr) (cl : List (Str × Addr)) (fp : List Addr), RI (X.blk s H' scope (compEnvC scope cl C X.env) fp) tg iter σ H R
section
variable {X : Cx} {ρ : En} {elt tg iter tg1 iter1 : Expr} {scope : Scope} {ds : List D} {cpos pos : Pos} {α β : Type}
theorem rts_nil {σ : L2.St} {H : Hp} {Q : Bool → Hp → Prop} (h : Q true H) : RTs X [] σ H Q := ⟨_, pts_nil, h⟩
/-- [f x y for x in xs for y in ys x] -/
theorem eo_lc2 (own : List (Str × Nat)) (vs1 : List Nat) (xs : List α) (enc : α → D) (ys : α → List β) (enc1 : β → D) (f : α → β → D) (hc : X.calm = true) (hN : X.N.Nodup) (ok : BlkOk X.N X.env.scope scope own) (hv : ∀ i ∈ vs1, i ∈ own.map (·.2)) (hno : noOw ρ = true) (hi : ID X ρ tg iter ds) (he : ds = xs.map enc)
    (turn : ∀ x ∈ xs, ∃ ρ1 ds1, noOw ρ1 = true ∧ ρ1.length = ρ.length ∧ ds1 = (ys x).map enc1 ∧ ∀ (s : Shared) (H : Hp) (C : Addr) (cl : List (Str × Addr)) (fp : List Addr), DG (X.blk s H scope (compEnvC scope cl C X.env) fp) (own.map (·.2)) tg (enc x) (wipeE ρ (own.map (·.2))) ρ1 ∧
      ID (X.blk s H scope (compEnvC scope cl C X.env) fp) ρ1 tg1 iter1 ds1 ∧ ∀ y ∈ ys x, ∃ ρ2, ρ2.length = ρ.length ∧ ∀ (s : Shared) (H : Hp) (C : Addr) (cl : List (Str × Addr)) (fp : List Addr), DG (X.blk s H scope (compEnvC scope cl C X.env) fp) vs1 tg1 (enc1 y) (wipeE ρ1 vs1) ρ2 ∧ ED (X.blk s H scope (compEnvC scope cl C X.env) fp) ρ2 elt (f x y))
    (hl : (xs.flatMap fun x => (ys x).map (f x)).length ≤ sizeLine) (hs : ∀ x, foldedSetIterable iter X.env x = pure x := by intro _; rfl) (hs1 : ∀ env x, foldedSetIterable iter1 env x = pure x := by intro _ _; rfl) :
    EO X ρ (.ListComp elt [⟨tg, iter, [], 0⟩, ⟨tg1, iter1, [], 0⟩] scope cpos) (.lst (xs.flatMap fun x => (ys x).map (f x))) := fun B0 B σ H0 H Q j k => by
  subst he
  refine RE.of (pe_lc2 (vs1 := vs1) hc hN pi_star ok hv (g := GB X scope tg) (tt := TB X scope []) (wi1 := IB X scope tg1 iter1) (g1 := GB X scope tg1) (tt1 := TB X scope []) (te := EB X scope elt)
    (fun s H C cl fp => ⟨fun pins s1 σ1 H1 v u Q1 I r h => (pg_star (tg := tg)).run pins s1 σ1 H1 v u Q1 I r (h s H C cl fp)⟩)
    (fun s H C cl fp => ⟨fun pins s1 σ1 H1 Q1 I h => by obtain ⟨t, h1, h2⟩ := h s H C cl fp; exact h1.run pins s1 σ1 H1 Q1 I h2⟩)
    (fun s H C cl fp => ⟨fun pins s1 σ1 H1 R I h => (pi_star (tg := tg1) (it := iter1)).run pins s1 σ1 H1 R I (h s H C cl fp)⟩)
    (fun s H C cl fp => ⟨fun pins s1 σ1 H1 v u Q1 I r h => (pg_star (tg := tg1)).run pins s1 σ1 H1 v u Q1 I r (h s H C cl fp)⟩)
    (fun s H C cl fp => ⟨fun pins s1 σ1 H1 Q1 I h => by obtain ⟨t, h1, h2⟩ := h s H C cl fp; exact h1.run pins s1 σ1 H1 Q1 I h2⟩)
    (fun s H C cl fp => ⟨fun pins s1 σ1 H1 Q1 I h => (pe_star (e := elt)).run pins s1 σ1 H1 Q1 I (h s H C cl fp)⟩) hs hs1) ?_
  refine hi B0 B σ H0 H _ j fun Jt G0 G g0 ⟨GG, Y, w, hG, hY⟩ => fun Dn hD => ?_
  have j0 := j.grow g0
  obtain ⟨r, hr⟩ : ∃ r : α → List D, r = fun x => (ys x).map (f x) := ⟨_, rfl⟩
  have hr' : ∀ x, (ys x).map (f x) = r x := fun x => by rw [hr]
  have hlen : (xs.map enc).length = xs.length := List.length_map _
  let Pv : Nat → Hp → Prop := fun i H1 => ∃ L0 acc, JH G0 G L0 H1 ∧ H1 Dn = some (.lst acc) ∧ L0 Dn = none ∧ DRs X.K L0 ((xs.take i).flatMap r) acc
  refine ⟨fun i m H1 => m = xs.length - i ∧ i ≤ xs.length ∧ Pv i H1, ⟨xs.length, by simp, Nat.zero_le _, G0, [], JH.own g0.sh hD, upd_same, g0.sh.free hD, rfl⟩, ?_⟩
  rintro i m H1 ⟨rfl, hi1, L0, acc, g1, hDn, hD0, racc⟩
  by_cases hlt : i < xs.length
  · refine .inr ⟨w.goes i H1 (by omega) (hG L0 H1 g1.s0 g1.sh), Pv (i + 1), fun H' p' => ⟨xs.length - (i + 1), by omega, rfl, hlt, p'⟩, fun x H1' hy => ?_⟩
    obtain ⟨xv, hxv⟩ : ∃ x, xs[i]? = some x := ⟨xs[i], by simp [hlt]⟩
    obtain ⟨L1, g2, rx⟩ := hY i L0 H1 x H1' (enc xv) (by rw [List.getElem?_map, hxv]; rfl) g1.s0 g1.sh (w.yields i H1 x H1' (by omega) (hG L0 H1 g1.s0 g1.sh) hy)
    obtain ⟨ρ1, ds1, no1, len1, e1, T⟩ := turn xv (List.mem_of_getElem? hxv)
    subst e1
    have j1 := ((j0.grow g1).grow g2).wipe (own.map (·.2))
    have gg := g1.trans g2
    intro s Hs C cl fp
    refine (T s Hs C cl fp).1 B0 B _ L1 H1' x _ j1 rx fun σ2 j2 off => ⟨wipe_back (by rw [j2.len, len1, ← wipeE_length ρ (own.map (·.2)), ← j1.len, wipe_length]) off, ?_⟩
    intro s Hs C cl fp
    refine rts_nil ?_
    simp only [if_true]
    intro s Hs C cl fp
    refine (T s Hs C cl fp).2.1 B0 B σ2 L1 H1' _ j2 fun J1 M0 M g3 ⟨GG1, Y1, w1, hG1, hY1⟩ => ?_
    have hDnM : M Dn = some (.lst acc) := g3.sB _ _ (g2.sB _ _ hDn)
    have hDM0 : M0 Dn = none := g3.fr _ _ (g2.sB _ _ hDn) trivial (g2.fr _ _ hDn trivial hD0)
    have n1 : ((ys xv).map enc1).length = (ys xv).length := List.length_map _
    let Pv1 : Nat → Hp → Prop := fun jx H2 => ∃ L2 acc, JH G0 G L2 H2 ∧ Same M0 L2 ∧ H2 Dn = some (.lst acc) ∧ L2 Dn = none ∧ DRs X.K L2 ((xs.take i).flatMap r ++ ((ys xv).take jx).map (f xv)) acc
    refine ⟨fun jx m H2 => m = (ys xv).length - jx ∧ jx ≤ (ys xv).length ∧ Pv1 jx H2, ⟨(ys xv).length, by simp, Nat.zero_le _, M0, acc, gg.trans g3, Same.refl _, hDnM, hDM0, by simpa using DRs.mono (g2.trans g3).s0 _ _ racc⟩, ?_⟩
    rintro jx m H2 ⟨rfl, hj1, L2, acc2, g4, s4, hDn2, hD02, racc2⟩
    by_cases hjlt : jx < (ys xv).length
    · refine .inr ⟨w1.goes jx H2 (by omega) (hG1 L2 H2 s4 g4.sh), Pv1 (jx + 1), fun H' p' => ⟨(ys xv).length - (jx + 1), by omega, rfl, hjlt, p'⟩, fun y H2' hy => ?_⟩
      obtain ⟨yv, hyv⟩ : ∃ y, (ys xv)[jx]? = some y := ⟨(ys xv)[jx], by simp [hjlt]⟩
      obtain ⟨L3, g5, ry⟩ := hY1 jx L2 H2 y H2' (enc1 yv) (by rw [List.getElem?_map, hyv]; rfl) s4 g4.sh (w1.yields jx H2 y H2' (by omega) (hG1 L2 H2 s4 g4.sh) hy)
      obtain ⟨ρ2, len2, T2⟩ := (T s Hs C cl fp).2.2 yv (List.mem_of_getElem? hyv)
      have g45 := g4.trans g5
      have j3 := (j2.reseat no1 (g3.s0.trans (s4.trans g5.s0)) (j0.hp.trans g45)).wipe vs1
      intro s Hs C cl fp
      refine (T2 s Hs C cl fp).1 B0 B _ L3 H2' y _ j3 ry fun σ3 j4 off => ⟨wipe_back (by rw [j4.len, len2, ← len1, ← wipeE_length ρ1 vs1, ← j3.len, wipe_length]) off, ?_⟩
      intro s Hs C cl fp
      refine rts_nil ?_
      simp only [if_true]
      intro s Hs C cl fp
      refine (T2 s Hs C cl fp).2 B0 B σ3 L3 H2' _ j4 fun v N0 N g6 rv => ?_
      have g56 := g5.trans g6
      have h4 : N Dn = some (.lst acc2) := g56.sB _ _ hDn2
      have h40 : N0 Dn = none := g56.fr _ _ hDn2 trivial hD02
      have gl := g4.trans g56
      have hroom : acc2.length < sizeLine := by
        have q1 := DRs.length racc2
        have q2 := flat_room r hxv (j := jx) (by rw [hr]; simpa using hjlt)
        simp only [List.length_append, List.length_map, List.length_take] at q1
        rw [hr] at q1 q2
        omega
      refine ⟨acc2, h4, hroom, N0, acc2 ++ [v], ⟨gl.s0, fun b u e => upd_keep (gl.sh b u e) (ne_of_none e h40), fun b u e => upd_keep (gl.sB b u e) (ne_of_none e hD), gl.fr⟩, s4.trans g56.s0, upd_same, h40, ?_⟩
      rw [List.take_add_one, hyv, List.map_append, ← List.append_assoc]
      exact DRs.app (DRs.mono g56.s0 _ _ racc2) (DRs.one rv)
    · have e : jx = (ys xv).length := by omega
      subst e
      have st := w1.stops H2 (hG1 L2 H2 s4 g4.sh)
      rw [n1] at st
      refine .inl ⟨st, L2, acc2, g4, hDn2, hD02, ?_⟩
      · rw [flat_take r hxv, ← hr' xv]
        rw [List.take_length] at racc2
        exact racc2
  · have e : i = xs.length := by omega
    subst e
    refine .inl ⟨?_, ?_⟩
    · have := w.stops H1 (hG L0 H1 g1.s0 g1.sh)
      rwa [hlen] at this
    · rw [List.take_length] at racc
      exact k Dn _ L0 H1 (g0.trans g1) hDn hD0 (g0.sB.free hD) ⟨acc, rfl, by rw [← hr]; exact racc⟩
end
end DL

/-! Items of a text; a target within more; defs that call themselves. -/
namespace DL
open PySem PySem.Spec PyProof.Rows L2
section
variable {X : Cx} {ρ ρ' : En}
/-- z[i], z a text -/
theorem ed_ixS {a b : Expr} {z : Str} {i : Int} {c : Nat} {pos : Pos} (ha : ED X ρ a (.str z)) (hb : ED X ρ b (.int i)) (hz : z.length ≤ sizeLine) (h : atI z.cps.toList i = some c) (hs : PlainIx b := by exact fun _ _ => rfl) : ED X ρ (.Subscript a b pos) (.str ⟨#[c]⟩) := fun B0 B σ H0 H Q j kk => by
  refine RE.of (pe_ix ix_str pe_star pe_star hs) (ha B0 B σ H0 H _ j fun x G0 G g1 r1 => hb B0 B σ G0 G _ (j.grow g1) fun y L0 L g2 r2 => ?_)
  exact ⟨z, i, c, r1, r2, hz, h, kk _ L0 L (g1.trans g2) rfl⟩
theorem DG.mono {is is' : List Nat} {tg : Expr} {d : D} (h : DG X is tg d ρ ρ') (hi : ∀ k ∈ is, k ∈ is') : DG X is' tg d ρ ρ' := fun B0 B σ H0 H v Q j r k =>
  h B0 B σ H0 H v Q j r fun σ' j' off => k σ' j' fun m hm => off m fun z => hm (hi m z)
theorem ed_dropOw {e : Expr} {d : D} (h : ED X (dropOw ρ) e d) : ED X ρ e d := fun B0 B σ H0 H Q j k => h B0 B σ H0 H Q j.dropOw k
theorem eo_dropOw {e : Expr} {c : OC} (h : EO X (dropOw ρ) e c) : EO X ρ e c := fun B0 B σ H0 H Q j k => h B0 B σ H0 H Q j.dropOw k
end
/-- a def that calls itself: its relation by depth; n calls deep it needs n levels of room -/
theorem fn_rec {P : Program} {w : World} {K : PySem.W.Frag} {mg : Str → Option Value} {base : Heap} {x : Str} {R : Nat → List D → D → Prop} {k : Nat} (h0 : Fn P w K mg base x k (R 0)) (hs : ∀ n m, Fn P w K mg base x m (R n) → Fn P w K mg base x (m + 1) (R (n + 1))) : ∀ n, Fn P w K mg base x (k + n) (R n)
  | 0 => h0
  | n + 1 => hs n (k + n) (fn_rec h0 hs n)
end DL

namespace DL
open PySem L2
def tI (t : List Int) : D := .tup (t.map .int)
def mvsL (t dx dy sx sy : Int) (cols rows : Nat) : List (List Int) := (List.range rows).flatMap fun (j : Nat) => (List.range cols).map fun (i : Nat) => [t, dx + (i : Int) * sx, dy + (j : Int) * sy]
theorem mvsL_succ (t dx dy sx sy : Int) (cols rows : Nat) : mvsL t dx dy sx sy cols (rows + 1) = mvsL t dx dy sx sy cols rows ++ (List.range cols).map fun (i : Nat) => [t, dx + (i : Int) * sx, dy + (rows : Int) * sy] := by
  unfold mvsL; rw [List.range_succ, List.flatMap_append]; simp
def rowL (a : List (List Int)) (t dx dy sx sy : Int) (j : Nat) (i : Nat) : List (List Int) := (List.range i).foldl (fun a (k : Nat) => a ++ [[t, dx + (k : Int) * sx, dy + (j : Int) * sy]]) a
theorem rowL_succ (a : List (List Int)) (t dx dy sx sy : Int) (j i : Nat) : rowL a t dx dy sx sy j (i + 1) = rowL a t dx dy sx sy j i ++ [[t, dx + (i : Int) * sx, dy + (j : Int) * sy]] := by
  unfold rowL; rw [List.range_succ, List.foldl_append]; rfl
theorem rowL_eq (a : List (List Int)) (t dx dy sx sy : Int) (j : Nat) : ∀ i, rowL a t dx dy sx sy j i = a ++ (List.range i).map fun (k : Nat) => [t, dx + (k : Int) * sx, dy + (j : Int) * sy]
  | 0 => by simp [rowL]
  | i + 1 => by rw [rowL_succ, rowL_eq a t dx dy sx sy j i, List.range_succ, List.map_append, List.append_assoc]; rfl
theorem mvsL_row (t dx dy sx sy : Int) (cols rows : Nat) : mvsL t dx dy sx sy cols (rows + 1) = rowL (mvsL t dx dy sx sy cols rows) t dx dy sx sy rows cols := by rw [mvsL_succ, rowL_eq]
theorem mvsL_len (t dx dy sx sy : Int) (cols : Nat) : ∀ rows, (mvsL t dx dy sx sy cols rows).length = rows * cols
  | 0 => by simp [mvsL]
  | r + 1 => by rw [mvsL_succ, List.length_append, mvsL_len t dx dy sx sy cols r, List.length_map, List.length_range, Nat.add_mul]; omega
theorem mvsL_D (t dx dy sx sy : Int) (cols rows : Nat) : ((List.range rows).flatMap fun (j : Nat) => (List.range cols).map fun (i : Nat) => tI [t, dx + (i : Int) * sx, dy + (j : Int) * sy]) = (mvsL t dx dy sx sy cols rows).map tI := by
  unfold mvsL; rw [List.map_flatMap]; simp only [List.map_map]; rfl
theorem mvsL_room {t dx dy sx sy : Int} {c r : Nat} (hc : c ≤ 100) (hr : r ≤ 100) : (mvsL t dx dy sx sy c r).length ≤ 10000 := by
  rw [mvsL_len]
  exact Nat.le_trans (Nat.mul_le_mul hr hc) (by decide)
theorem mvsL_3 {t dx dy sx sy : Int} {c r : Nat} : ∀ m ∈ mvsL t dx dy sx sy c r, m.length ≤ 1000 := by
  intro m hm
  unfold mvsL at hm
  simp only [List.mem_flatMap, List.mem_map, List.mem_range] at hm
  obtain ⟨j, _, i, _, rfl⟩ := hm
  simp
theorem rng_lo {y n : Nat} (h : y ∈ List.range n) (hn : n ≤ 1000) : -(2 ^ 64) < (y : Int) ∧ (y : Int) < 2 ^ 64 := by
  have := List.mem_range.mp h; omega
theorem at_map {α : Type} {f : α → D} {xs : List α} {k : Nat} (h : k < xs.length) : atI (xs.map f) (k : Int) = some (f xs[k]) := L2.atI_nat (by simp [h])
def ltr : Str := "abcdefghijklmnopqrstuvwxyz"
def tls : List Str := ["", "1", "n2", "ab", "z9", "q0q"]
theorem ltr_len : ltr.cps.toList.length = 26 := by decide +kernel
theorem at_ltr {i : Int} (h0 : 0 ≤ i) (h1 : i < 26) : atI ltr.cps.toList i = some (ltr.cps.toList.getD i.toNat 0) := by
  refine atI_nn h0 ?_
  have : i.toNat < ltr.cps.toList.length := by rw [ltr_len]; omega
  rw [List.getD_eq_getElem?_getD, List.getElem?_eq_getElem this]; rfl
theorem at_tls {i : Int} (h0 : 0 ≤ i) (h1 : i < 6) : atI (tls.map D.str) i = some (.str (tls.getD i.toNat "")) := by
  refine atI_nn h0 ?_
  have : i.toNat < tls.length := by show i.toNat < 6; omega
  rw [List.getElem?_map, List.getD_eq_getElem?_getD, List.getElem?_eq_getElem this]; rfl
theorem tls_len (i : Nat) : (tls.getD i "").length ≤ 3 := by
  match i with
  | 0 => decide +kernel
  | 1 => decide +kernel
  | 2 => decide +kernel
  | 3 => decide +kernel
  | 4 => decide +kernel
  | 5 => decide +kernel
  | i + 6 => 
    rw [List.getD_eq_getElem?_getD, List.getElem?_eq_none (by show 6 ≤ i + 6; omega)]
    decide +kernel
def nmOf (d : Int) : Str := (⟨#[ltr.cps.toList.getD (d % 26).toNat 0]⟩ : Str) ++ tls.getD (d / 26 % 6).toNat ""
end DL

/-! Places that are told; what a frame owns, read and changed. -/
namespace DL
open PySem PySem.Spec PyProof.Rows L2
/-- c stands at a, and some slot owns it -/
structure Cell (ρ : En) (a : Addr) (c : OC) : Prop where
  ex : ∃ (i : Nat) (cs : List (Addr × OC)) (d : D), ρ[i]? = some (.ox cs d) ∧ (a, c) ∈ cs
theorem cell_at {ρ : En} {a : Addr} {c : OC} (i : Nat) {cs : List (Addr × OC)} {d : D} (h : ρ[i]? = some (.ox cs d)) (m : (a, c) ∈ cs) : Cell ρ a c := ⟨i, cs, d, h, m⟩
section
variable {K : PySem.W.Frag} {B0 B H0 H : Hp} {σ : L2.St} {ρ : En}
theorem J.at (j : J K B0 B σ H0 H ρ) {a : Addr} {c : OC} (h : Cell ρ a c) : ∃ o, H a = some o ∧ H0 a = none ∧ B a = none ∧ OCR K H0 c o := by
  obtain ⟨i, cs, d, h1, h2⟩ := h.ex
  exact j.cell h1 h2
end
section
variable {X : Cx} {ρ : En} {Φ : Out → Prop} {e a b : Expr} {pos : Pos} {d : D} {rest : List Stmt}
theorem ed_varX (i : Nat) {x : Str} {cs : List (Addr × OC)} (hρ : ρ[i]? = some (.ox cs d)) (hN : X.N[i]? = some x := by rfl) (hv : Vis X.env.scope x := by first | exact Or.inl rfl | exact Or.inr (Or.inl rfl) | exact Or.inr (Or.inr rfl)) (hd : (x == ("__debug__" : Str)) = false := by decide)
    (hcd : (x == ("__classdict__" : Str)) = false := by decide) : ED X ρ (.Name x pos) d := fun B0 B σ H0 H Q j k => by
  obtain ⟨ov, h1, ⟨v, rfl, h2⟩, _⟩ := j.get hρ
  exact RE.of (pe_var hN hv hd hcd) ⟨v, h1, k v H0 H (JH.refl j.same) h2⟩
theorem ws_tell (i : Nat) {c : OC} (hi : ρ[i]? = some (.ow c)) (h : ∀ a, WSs X rest (ρ.set i (.ox [(a, c)] (.ad a))) Φ) : WSs X rest ρ Φ := fun B0 B σ H0 H Dn j k => by
  obtain ⟨a, j'⟩ := j.tell hi
  exact h a B0 B σ H0 H Dn j' k
theorem ws_shareX (i : Nat) {cs : List (Addr × OC)} (hi : ρ[i]? = some (.ox cs d)) (d' : D) (hd : ∀ (K : PySem.W.Frag) (H : Hp) v, (∀ p ∈ cs, DR K H p.2.d (.ref p.1)) → DR K H d v → DR K H d' v) (h : WSs X rest (ρ.set i (.sh d')) Φ) : WSs X rest ρ Φ := fun B0 B σ H0 H Dn j k => by
  obtain ⟨H1, j1, s1, r1⟩ := shareAll j hi
  have hl : i < σ.length := by rw [j.len]; exact (List.getElem?_eq_some_iff.mp hi).1
  obtain ⟨ov, e1, v, e2, r2⟩ := j1.get (i := i) (s := .sh d) (by rw [List.getElem?_set_self (by rw [← j.len]; exact hl)])
  have j2 := j1.setSl (i := i) (s := .sh d') e1 ⟨v, e2, hd _ _ v r1 r2⟩ fun a w => w.elim
  rw [List.set_set] at j2
  exact h B0 B σ H1 H Dn j2 k
/-- the items of a list that stands at a place -/
theorem ed_ixA {p : Addr} {ds : List D} {i : Int} (hc : Cell ρ p (.lst ds)) (ha : ED X ρ a (.ad p)) (hb : ED X ρ b (.int i)) (h : atI ds i = some d) (hs : PlainIx b := by exact fun _ _ => rfl) : ED X ρ (.Subscript a b pos) d := fun B0 B σ H0 H Q j kk => by
  refine RE.of (pe_ix ix_list pe_star pe_star hs) (ha B0 B σ H0 H _ j fun x G0 G g1 r1 => hb B0 B σ G0 G _ (j.grow g1) fun y L0 L g2 r2 => ?_)
  cases (show x = .ref p from r1)
  obtain ⟨o, h1, h2, h3, vs, rfl, r⟩ := ((j.grow g1).grow g2).at hc
  obtain ⟨k, e1, e2, _⟩ := atI_get h
  obtain ⟨v, h3, h4⟩ := DRs.get r e2
  have e4 : atI vs i = some v := by
    unfold atI at h ⊢
    rw [← DRs.length r]
    cases q : ixN ds.length i with
    | none => rw [q] at h; cases h
    | some m =>
      rw [q] at h
      have := (ixN_seq q).1
      rw [e1] at this
      cases this
      exact h3
  exact ⟨p, vs, i, v, rfl, r2, SqL.of h1, e4, kk v L0 L (g1.trans g2) h4⟩
/-- .. that a slot owns -/
theorem ed_ixO (m : Nat) {x : Str} {p1 : Pos} {ds : List D} {i : Int} (hρ : ρ[m]? = some (.ow (.lst ds))) (hb : ED X ρ b (.int i)) (h : atI ds i = some d) (hs : PlainIx b := by exact fun _ _ => rfl) (hN : X.N[m]? = some x := by rfl) (hv : Vis X.env.scope x := by first | exact Or.inl rfl | exact Or.inr (Or.inl rfl) | exact Or.inr (Or.inr rfl)) (hd : (x == ("__debug__" : Str)) = false := by decide)
    (hcd : (x == ("__classdict__" : Str)) = false := by decide) : ED X ρ (.Subscript (.Name x p1) b pos) d := fun B0 B σ H0 H Q j kk => by
  obtain ⟨ov, e0, p, o, rfl, _⟩ := j.get hρ
  refine RE.of (pe_ix ix_list (pe_var hN hv hd hcd) pe_star hs) ⟨_, e0, hb B0 B σ H0 H _ j fun y L0 L g2 r2 => ?_⟩
  obtain ⟨ov', e0', p', o', e3, h1, h2, h3, vs, rfl, r⟩ := (j.grow g2).get hρ
  rw [e0] at e0'; cases e0'; cases e3
  obtain ⟨k, e1, e2, _⟩ := atI_get h
  obtain ⟨v, h3, h4⟩ := DRs.get r e2
  have e4 : atI vs i = some v := by
    unfold atI at h ⊢
    rw [← DRs.length r]
    cases q : ixN ds.length i with
    | none => rw [q] at h; cases h
    | some m =>
      rw [q] at h
      have := (ixN_seq q).1
      rw [e1] at this
      cases this
      exact h3
  exact ⟨p, vs, i, v, rfl, r2, SqL.of h1, e4, kk v L0 L g2 h4⟩
/-- len of a list that stands at a place, or that a slot owns -/
theorem ed_lenA {p1 : Pos} {p : Addr} {ds : List D} (hc : Cell ρ p (.lst ds)) (hg : Gl X "len") (hm : X.mg "len" = none) (ha : ED X ρ a (.ad p)) 
    (he : starEach [a] X.env = (false, eval a X.env) :: starEach [] X.env := by rfl) (hpl : (backTo pos (starEach [] X.env)).any (·.1) = false := by rfl) : ED X ρ (.Call (.Name "len" p1) [a] [] pos) (.int ds.length) := fun B0 B σ H0 H Q j kk => by
  refine RE.of (pe_callB call_len_seq hg hm bb_len pa_star (by decide) (by decide) he hpl) (ad_cons (X := X) ha ad_nil he B0 B σ H0 H _ j fun vs G0 G g r => ?_)
  obtain ⟨x, rfl, r1⟩ := r.one'
  cases (show x = .ref p from r1)
  obtain ⟨o, h1, h2, h3, ys, rfl, r⟩ := (j.grow g).at hc
  exact ⟨p, ys, rfl, .inl (SqL.of h1), by rw [← DRs.length r]; exact kk _ G0 G g rfl⟩
theorem ed_lenO (m : Nat) {x : Str} {p1 p2 : Pos} {ds : List D} (hρ : ρ[m]? = some (.ow (.lst ds))) (hg : Gl X "len") (hm : X.mg "len" = none) (hN : X.N[m]? = some x := by rfl) (hv : Vis X.env.scope x := by first | exact Or.inl rfl | exact Or.inr (Or.inl rfl) | exact Or.inr (Or.inr rfl)) (hd : (x == ("__debug__" : Str)) = false := by decide)
    (hcd : (x == ("__classdict__" : Str)) = false := by decide)
    (he : starEach [.Name x p2] X.env = (false, eval (.Name x p2) X.env) :: starEach [] X.env := by rfl) (hpl : (backTo pos (starEach [] X.env)).any (·.1) = false := by rfl) : ED X ρ (.Call (.Name "len" p1) [.Name x p2] [] pos) (.int ds.length) := fun B0 B σ H0 H Q j kk => by
  obtain ⟨ov, e0, p, o, rfl, h1, h2, h3, vs, rfl, r⟩ := j.get hρ
  refine RE.of (pe_callB call_len_seq hg hm bb_len (pa_cons (pe_var hN hv hd hcd) pa_nil he) (by decide) (by decide) he hpl) ⟨_, e0, p, vs, rfl, .inl (SqL.of h1), by rw [← DRs.length r]; exact kk _ H0 H (JH.refl j.same) rfl⟩
/-- the truth of a list that a slot owns -/
theorem td_truthO (m : Nat) {x : Str} {p1 : Pos} {ds : List D} (hρ : ρ[m]? = some (.ow (.lst ds))) (hN : X.N[m]? = some x := by rfl) (hv : Vis X.env.scope x := by first | exact Or.inl rfl | exact Or.inr (Or.inl rfl) | exact Or.inr (Or.inr rfl)) (hd : (x == ("__debug__" : Str)) = false := by decide)
    (hcd : (x == ("__classdict__" : Str)) = false := by decide) (he : ∀ whole, isTrue (.Name x p1) X.env whole = (do let v ← whole; standAt (Expr.pos (.Name x p1)); holding [v] (truthy v)) := by intro _; rfl) : TD X ρ (.Name x p1) (!ds.isEmpty) := fun B0 B σ H0 H Q j kk => by
  obtain ⟨ov, e0, p, o, rfl, h1, h2, h3, vs, rfl, r⟩ := j.get hρ
  exact RT.of (pt_truth (pe_var hN hv hd hcd) he) ⟨_, e0, _, .inl ⟨vs, SqL.of h1, rfl⟩, by rw [r.emp]; exact kk H0 H (JH.refl j.same)⟩
theorem td_truthA {p : Addr} {ds : List D} (hc : Cell ρ p (.lst ds)) (h : ED X ρ e (.ad p)) (he : ∀ whole, isTrue e X.env whole = (do let v ← whole; standAt e.pos; holding [v] (truthy v)) := by intro _; rfl) : TD X ρ e (!ds.isEmpty) := fun B0 B σ H0 H Q j kk =>
  RT.of (pt_truth pe_star he) (h B0 B σ H0 H _ j fun v G0 G g r => by
    cases (show v = .ref p from r)
    obtain ⟨o, h1, h2, h3, vs, rfl, r⟩ := (j.grow g).at hc
    exact ⟨_, .inl ⟨vs, SqL.of h1, rfl⟩, by rw [r.emp]; exact kk _ _ g⟩)
/-- e.append(f), e a list at a place -/
theorem ws_appendA (i : Nat) {p : Addr} {cs : List (Addr × OC)} {d0 : D} {ds : List D} {p2 p3 : Pos} (hi : ρ[i]? = some (.ox cs d0)) (hm : (p, OC.lst ds) ∈ cs) (ha : ED X ρ a (.ad p)) (he : ED X ρ e d) (hl : ds.length < sizeLine) (hΦ : Φ (.nx (ρ.set i (.ox (putC cs p (.lst (ds ++ [d]))) d0))))
    (hpe : ∀ {to : TE} {ta : TA}, PE X a to → PA X [e] ta → PS X (.Expr (.Call (.Attribute a "append" p2) [e] [] p3) pos) (tDrop (tBM X.K "list" rAppend to ta))) (hs : starEach [e] X.env = (false, eval e X.env) :: starEach [] X.env := by rfl) :
    WS X (.Expr (.Call (.Attribute a "append" p2) [e] [] p3) pos) ρ Φ := fun B0 B σ H0 H Dn j k => by
  refine ⟨_, hpe pe_star pa_star, ha B0 B σ H0 H _ j fun v G0 G g r => ?_⟩
  cases (show v = .ref p from r)
  obtain ⟨o, h1, h2, h3, vs, rfl, r⟩ := (j.grow g).cell hi hm
  refine ⟨Or.inl ⟨rfl, _, Or.inl (Or.inl h1)⟩, ad_cons (X := X) he ad_nil hs B0 B σ G0 G _ (j.grow g) fun ws L0 L g2 rr => ?_⟩
  obtain ⟨y, rfl, ry⟩ := rr.one'
  have j1 := (j.grow g).grow g2
  obtain ⟨o', h1', h2', h3', vs', rfl, r'⟩ := j1.cell hi hm
  exact ⟨p, vs', y, rfl, rfl, h1', by rw [← DRs.length r']; exact hl, k _ hΦ _ L0 _ (j1.put hi hm ⟨_, rfl, DRs.app r' (DRs.one ry)⟩)⟩
/-- e[f] = g, e a list at a place -/
theorem ws_lputA (i : Nat) {p : Addr} {cs : List (Addr × OC)} {d0 : D} {ds : List D} {n : Int} {m : Nat} {p2 : Pos} (hi : ρ[i]? = some (.ox cs d0)) (hm : (p, OC.lst ds) ∈ cs) (ha : ED X ρ a (.ad p)) (hb : ED X ρ b (.int n)) (he : ED X ρ e d) (hn : ixN ds.length n = some m) (hΦ : Φ (.nx (ρ.set i (.ox (putC cs p (.lst (ds.set m d))) d0))))
    (hs : swapsWithSole [.Subscript a b p2] e pos.line X.env = pure false := by rfl) (hw : swappedStores [.Subscript a b p2] e X.env = pure none := by rfl) (h1 : (assignEach [.Subscript a b p2] X.env).map (·.2) = [assign (.Subscript a b p2) X.env] := by rfl)
    (hx : ∀ v, assign (.Subscript a b p2) X.env v = (do
      let ov ← holding [v] (eval a X.env)
      let iv ← holding [v, ov] (eval b X.env)
      standAt p2
      holding [v, ov, iv] (setItem ov iv v)
      release [v, ov, iv] []) := by intro _; rfl) : WS X (.Assign [.Subscript a b p2] e pos) ρ Φ := fun B0 B σ H0 H Dn j k => by
  refine ⟨_, ps_asg pe_star (pg_sub pe_star pe_star set_list hx) hs hw h1, he B0 B σ H0 H _ j fun v G0 G g1 r1 => ha B0 B σ G0 G _ (j.grow g1) fun x L0 L g2 r2 => hb B0 B σ L0 L _ ((j.grow g1).grow g2) fun y M0 M g3 r3 => ?_⟩
  cases (show x = .ref p from r2); cases (show y = .int n from r3)
  have j1 := ((j.grow g1).grow g2).grow g3
  obtain ⟨o', h1', h2', h3', vs', rfl, r'⟩ := j1.cell hi hm
  exact ⟨p, vs', n, m, rfl, rfl, h1', by rw [← DRs.length r']; exact hn, k _ hΦ _ M0 _ (j1.put hi hm ⟨_, rfl, DRs.set (DR.mono (g2.trans g3).s0 _ _ r1) m r'⟩)⟩
/-- x[f] = g, x a list of the def's own -/
theorem ws_lputO (i : Nat) {x : Str} {ds : List D} {n : Int} {m : Nat} {p1 p2 : Pos} (hi : ρ[i]? = some (.ow (.lst ds))) (hb : ED X ρ b (.int n)) (he : ED X ρ e d) (hn : ixN ds.length n = some m) (hΦ : Φ (.nx (ρ.set i (.ow (.lst (ds.set m d))))))
    (hs : swapsWithSole [.Subscript (.Name x p1) b p2] e pos.line X.env = pure false := by rfl) (hw : swappedStores [.Subscript (.Name x p1) b p2] e X.env = pure none := by rfl) (h1 : (assignEach [.Subscript (.Name x p1) b p2] X.env).map (·.2) = [assign (.Subscript (.Name x p1) b p2) X.env] := by rfl)
    (hx : ∀ v, assign (.Subscript (.Name x p1) b p2) X.env v = (do
      let ov ← holding [v] (eval (.Name x p1) X.env)
      let iv ← holding [v, ov] (eval b X.env)
      standAt p2
      holding [v, ov, iv] (setItem ov iv v)
      release [v, ov, iv] []) := by intro _; rfl)
    (hN : X.N[i]? = some x := by rfl) (hv : Vis X.env.scope x := by first | exact Or.inl rfl | exact Or.inr (Or.inl rfl) | exact Or.inr (Or.inr rfl)) (hd : (x == ("__debug__" : Str)) = false := by decide)
    (hcd : (x == ("__classdict__" : Str)) = false := by decide) : WS X (.Assign [.Subscript (.Name x p1) b p2] e pos) ρ Φ := fun B0 B σ H0 H Dn j k => by
  refine ⟨_, ps_asg pe_star (pg_sub (pe_var hN hv hd hcd) pe_star set_list hx) hs hw h1, he B0 B σ H0 H _ j fun v G0 G g1 r1 => ?_⟩
  obtain ⟨ov, e0, p, o, rfl, _⟩ := j.get hi
  refine ⟨_, e0, hb B0 B σ G0 G _ (j.grow g1) fun y M0 M g3 r3 => ?_⟩
  cases (show y = .int n from r3)
  have j1 := (j.grow g1).grow g3
  obtain ⟨ov', e0', p', o', e3, h1', h2', h3', vs', rfl, r'⟩ := j1.get hi
  rw [e0] at e0'; cases e0'; cases e3
  exact ⟨p, vs', n, m, rfl, rfl, h1', by rw [← DRs.length r']; exact hn, k _ hΦ _ M0 _ (j1.write hi e0 ⟨_, rfl, DRs.set (DR.mono g3.s0 _ _ r1) m r'⟩)⟩
end

/-! dicts whose keys are ints or texts -/
theorem valV_zip {κ : Type} [DecidableEq κ] : ∀ {ks : List κ} {vs : List V} {k : κ}, ks.length = vs.length → (∃ m : Nat, ks[m]? = some k ∧ ∃ v, vs[m]? = some v ∧ valV (ks.zip vs) k = some v) ∨ (k ∉ ks ∧ valV (ks.zip vs) k = none)
  | [], [], k, _ => .inr ⟨by simp, rfl⟩
  | [], _ :: _, _, h => by simp at h
  | _ :: _, [], _, h => by simp at h
  | k0 :: ks, v0 :: vs, k, h => by
    by_cases e : k0 = k
    · subst e
      exact .inl ⟨0, rfl, v0, rfl, by simp [valV]⟩
    · have ev : valV ((k0 :: ks).zip (v0 :: vs)) k = valV (ks.zip vs) k := by
        simp only [List.zip_cons_cons, valV, List.find?_cons]
        rw [decide_eq_false e]
      rw [ev]
      rcases valV_zip (ks := ks) (vs := vs) (k := k) (by simpa using h) with ⟨m, h1, v, h2, h3⟩ | ⟨h1, h2⟩
      · exact .inl ⟨m + 1, by simpa using h1, v, by simpa using h2, h3⟩
      · exact .inr ⟨by simp [h1, Ne.symm e], h2⟩
theorem putK_zip {κ : Type} [DecidableEq κ] {ks : List κ} {vs : List V} {k : κ} {v : V} (hl : ks.length = vs.length) (h : k ∉ ks) : putK (ks.zip vs) k v = (ks ++ [k]).zip (vs ++ [v]) := by
  unfold putK
  have e : ((ks.zip vs).any fun kv => decide (kv.1 = k)) = false := by
    rw [List.any_eq_false]
    rintro ⟨k', v'⟩ hm
    have := (List.of_mem_zip hm).1
    simp only [decide_eq_true_eq]
    rintro rfl
    exact h this
  rw [e, if_neg (by simp), List.zip_append hl]; rfl
section
variable {X : Cx} {ρ : En} {Φ : Out → Prop} {e a b : Expr} {pos : Pos} {d : D} {rest : List Stmt}
/-- r = m.setdefault(y, []), m a dict of the def's own at a place that is told -/
theorem ws_setdef (i j : Nat) {x z : Str} {p1 p2 p3 p4 p5 : Pos} {l : Addr} {y : Int} {ks : List Key} {ds : List D} {cs : List (Addr × OC)} (hnd : X.N.Nodup) (hi : ρ[i]? = some (.ox ((l, .dk ks ds) :: cs) (.ad l))) (he : ED X ρ e (.int y)) (hl : ks.length < sizeLine)
    (h1 : ∀ (m : Nat) d, ks[m]? = some (Sum.inl y) → ds[m]? = some d → Φ (.nx (ρ.set j (.sh d)))) (h2 : Sum.inl y ∉ ks → ∀ q, q ∉ (((l, OC.dk ks ds) :: cs).map (·.1)) → Φ (.nx ((ρ.set i (.ox (putC (((l, .dk ks ds) :: cs) ++ [(q, .lst [])]) l (.dk (ks ++ [Sum.inl y]) (ds ++ [.ad q]))) (.ad l))).set j (.sh (.ad q)))))
    (m : M2 X (.Name x p1) "setdefault" p2 e (.List [] p3) p4) (hs : swapsWith (.Call (.Attribute (.Name x p1) "setdefault" p2) [e, .List [] p3] [] p4) (some (.Name z p5)) pos.line X.env = pure false := by rfl)
    (hN : X.N[i]? = some x := by rfl) (hv : Vis X.env.scope x := by first | exact Or.inl rfl | exact Or.inr (Or.inl rfl) | exact Or.inr (Or.inr rfl)) (hd : (x == ("__debug__" : Str)) = false := by decide) (hcd : (x == ("__classdict__" : Str)) = false := by decide)
    (hj : X.N[j]? = some z := by rfl) (hx : Loc X.env.scope z := by first | exact Or.inl rfl | exact Or.inr rfl) (hf : X.fn z = true ∨ X.env.scope.names.lookup z = some .local := by first | exact .inl rfl | exact .inr rfl) :
    WS X (.Assign [.Name z p5] (.Call (.Attribute (.Name x p1) "setdefault" p2) [e, .List [] p3] [] p4) pos) ρ Φ := fun B0 B σ H0 H Dn J k => by
  refine ⟨_, ps_set hnd hj hx (pe_dsetd (pe_var hN hv hd hcd) pe_star pe_star m) hs hf, ?_⟩
  obtain ⟨ov, e0, ⟨v, rfl, hvv⟩, _⟩ := J.get hi
  cases (show v = .ref l from hvv)
  obtain ⟨o0, f1, _, _, vs0, rfl, _⟩ := J.cell hi (List.mem_cons_self ..)
  refine ⟨_, e0, l, rfl, .inl ⟨_, .inl f1⟩, he B0 B σ H0 H _ J fun yv G0 G g1 r1 => ?_⟩
  cases (show yv = .int y from r1)
  refine eo_lst (X := X) (ρ := ρ) ad_nil (by decide) B0 B σ G0 G _ (J.grow g1) fun q o L0 L g2 w1 w2 w3 w4 => ?_
  have j2 := (J.grow g1).grow g2
  obtain ⟨o1, z1, z2, z3, vs, rfl, hlen, rr⟩ := j2.cell hi (List.mem_cons_self ..)
  refine ⟨ks.zip vs, Sum.inl y, z1, rfl, by rw [List.length_zip, ← hlen]; omega, fun v hv => ?_, fun hn => ?_⟩
  · rcases valV_zip (k := Sum.inl y) hlen with ⟨m, e1, v', e2, e3⟩ | ⟨_, e3⟩
    · rw [hv] at e3; cases e3
      obtain ⟨dd, e4, e5⟩ := DRs.get' rr e2
      exact k _ (h1 m dd e1 e4) _ L0 L (j2.setSh e5)
    · rw [hv] at e3; cases e3
  · rcases valV_zip (k := Sum.inl y) hlen with ⟨m, e1, v', e2, e3⟩ | ⟨nk, _⟩
    · rw [hn] at e3; cases e3
    · rw [putK_zip hlen nk]
      have j3 := (J.grow g1).more g2 hi w1 w2 w3 w4
      have hlt : i < ρ.length := (List.getElem?_eq_some_iff.mp hi).1
      have j4 := j3.put (i := i) (a := l) (c := .dk ks ds) (c' := .dk (ks ++ [Sum.inl y]) (ds ++ [.ad q])) (o := .dK ((ks ++ [Sum.inl y]).zip (vs ++ [V.ref q]))) (by rw [List.getElem?_set_self hlt]) (by simp) ⟨_, rfl, by simp [hlen], DRs.app rr (DRs.one (d := .ad q) (v := V.ref q) rfl)⟩
      rw [List.set_set] at j4
      refine k _ (h2 nk q fun hq => ?_) _ L0 _ (j4.setSh rfl)
      obtain ⟨_, _, _, _, nd⟩ := j3.get (i := i) (s := .ox (((l, .dk ks ds) :: cs) ++ [(q, .lst [])]) (.ad l)) (by rw [List.getElem?_set_self hlt])
      rw [List.map_append, List.nodup_append] at nd
      exact nd.2.2 q hq q (by simp) rfl
/-- the places are different ones -/
theorem ws_nodup (i : Nat) {cs : List (Addr × OC)} (hi : ρ[i]? = some (.ox cs d)) (h : (cs.map (·.1)).Nodup → WSs X rest ρ Φ) : WSs X rest ρ Φ := fun B0 B σ H0 H Dn j k => by
  obtain ⟨ov, e1, _, _, nd⟩ := j.get hi
  exact h nd B0 B σ H0 H Dn j k
end
end DL

/-! Regions in plain mathematics: segments, edges, rows. -/
namespace DL
abbrev Seg (α : Type) := Int × Int × α
section
variable {α : Type} [DecidableEq α] {e : α}
def segVal (e : α) : List (Seg α) → Int → α
  | [], _ => e
  | s :: t, y => if s.1 ≤ y ∧ y < s.2.1 then s.2.2 else segVal e t y
/-- one behind the other, not to be made one -/
def link (s s' : Seg α) : Prop := s.2.1 ≤ s'.1 ∧ (s.2.1 = s'.1 → s.2.2 ≠ s'.2.2)
def okS (e : α) (s : Seg α) : Prop := s.1 < s.2.1 ∧ s.2.2 ≠ e
inductive Can (e : α) : List (Seg α) → Prop where
  | nil : Can e []
  | one {s} (h : okS e s) : Can e [s]
  | cons {s s' t} (h : okS e s) (hl : link s s') (ht : Can e (s' :: t)) : Can e (s :: s' :: t)
theorem Can.head {s : Seg α} {t : List (Seg α)} (h : Can e (s :: t)) : okS e s := by
  cases h with
  | one h => exact h
  | cons h _ _ => exact h
theorem Can.tail {s : Seg α} {t : List (Seg α)} (h : Can e (s :: t)) : Can e t := by
  cases h with
  | one h => exact .nil
  | cons _ _ h => exact h
theorem Can.lo {s : Seg α} {t : List (Seg α)} (h : Can e (s :: t)) : ∀ p ∈ s :: t, s.1 ≤ p.1 := by
  induction t generalizing s with
  | nil => intro p hp; simp at hp; subst hp; exact Int.le_refl _
  | cons s' t ih =>
    intro p hp
    cases h with
    | cons h hl ht =>
      rcases List.mem_cons.mp hp with rfl | hp
      · exact Int.le_refl _
      · have h1 := ih ht p hp
        have h2 := hl.1
        have h3 := h.1
        omega
theorem Can.above {s : Seg α} {t : List (Seg α)} (h : Can e (s :: t)) : ∀ p ∈ t, s.2.1 ≤ p.1 := by
  cases h with
  | one h => intro p hp; simp at hp
  | cons h hl ht =>
    intro p hp
    have := ht.lo p hp
    have h2 := hl.1
    omega
theorem segVal_below {l : List (Seg α)} {y : Int} (h : ∀ p ∈ l, y < p.1) : segVal e l y = e := by
  induction l with
  | nil => rfl
  | cons s t ih =>
    unfold segVal
    have := h s List.mem_cons_self
    rw [if_neg (by omega)]
    exact ih fun p hp => h p (List.mem_cons_of_mem _ hp)
theorem segVal_over {l : List (Seg α)} {y : Int} (h : ∀ p ∈ l, p.2.1 ≤ y) : segVal e l y = e := by
  induction l with
  | nil => rfl
  | cons s t ih =>
    unfold segVal
    have := h s List.mem_cons_self
    rw [if_neg (by omega)]
    exact ih fun p hp => h p (List.mem_cons_of_mem _ hp)
theorem Can.at_hi {s : Seg α} {t : List (Seg α)} (h : Can e (s :: t)) : segVal e t s.2.1 ≠ s.2.2 := by
  have hs := h.head
  cases h with
  | one h => exact fun z => hs.2 z.symm
  | cons h hl ht =>
    rename_i s' t
    have h1 := hl.1
    by_cases q : s.2.1 = s'.1
    · have h2 := ht.head.1
      unfold segVal
      rw [if_pos (by omega)]
      exact fun z => hl.2 q z.symm
    · rw [segVal_below (fun p hp => by have := ht.lo p hp; omega)]
      exact fun z => hs.2 z.symm
theorem can_uniq : ∀ {l m : List (Seg α)}, Can e l → Can e m → (∀ y, segVal e l y = segVal e m y) → l = m
  | [], [], _, _, _ => rfl
  | [], s :: t, _, hm, h => by
    have := h s.1
    have hs := hm.head
    simp only [segVal] at this
    rw [if_pos ⟨Int.le_refl _, hs.1⟩] at this
    exact absurd this.symm hs.2
  | s :: t, [], hl, _, h => by
    have := h s.1
    have hs := hl.head
    simp only [segVal] at this
    rw [if_pos ⟨Int.le_refl _, hs.1⟩] at this
    exact absurd this hs.2
  | (a, b, v) :: t, (a', b', v') :: t', hl, hm, h => by
    have hs := hl.head
    have hs' := hm.head
    simp only [okS] at hs hs'
    have e1 : a = a' := by
      rcases Int.lt_trichotomy a a' with q | q | q
      · have h1 := h a
        rw [segVal_below (l := (a', b', v') :: t') (fun p hp => by have := hm.lo p hp; simp only at this; omega)] at h1
        simp only [segVal] at h1
        rw [if_pos ⟨Int.le_refl _, hs.1⟩] at h1
        exact absurd h1 hs.2
      · exact q
      · have h1 := h a'
        rw [segVal_below (l := (a, b, v) :: t) (fun p hp => by have := hl.lo p hp; simp only at this; omega)] at h1
        simp only [segVal] at h1
        rw [if_pos ⟨Int.le_refl _, hs'.1⟩] at h1
        exact absurd h1.symm hs'.2
    subst e1
    have e2 : v = v' := by
      have h1 := h a
      simp only [segVal] at h1
      rwa [if_pos ⟨Int.le_refl _, hs.1⟩, if_pos ⟨Int.le_refl _, hs'.1⟩] at h1
    subst e2
    have e3 : b = b' := by
      rcases Int.lt_trichotomy b b' with q | q | q
      · have h1 := h b
        have h2 := hl.at_hi
        simp only [segVal] at h1
        rw [if_neg (by omega), if_pos (by omega)] at h1
        exact absurd h1 h2
      · exact q
      · have h1 := h b'
        have h2 := hm.at_hi
        simp only [segVal] at h1
        rw [if_pos (by omega), if_neg (by omega)] at h1
        exact absurd h1.symm h2
    subst e3
    rw [can_uniq hl.tail hm.tail fun y => ?_]
    by_cases q : y < b
    · rw [segVal_below fun p hp => by have := hl.above p hp; simp only at this; omega, segVal_below fun p hp => by have := hm.above p hp; simp only at this; omega]
    · have h1 := h y
      simp only [segVal] at h1
      rwa [if_neg (by omega), if_neg (by omega)] at h1
/-! a segment put behind -/
theorem segVal_app_hi {l m : List (Seg α)} {y : Int} (h : ∀ p ∈ l, p.2.1 ≤ y) : segVal e (l ++ m) y = segVal e m y := by
  induction l with
  | nil => rfl
  | cons s t ih =>
    have := h s List.mem_cons_self
    rw [List.cons_append]
    unfold segVal
    rw [if_neg (by omega)]
    rw [ih fun p hp => h p (List.mem_cons_of_mem _ hp)]
    cases m <;> rfl
theorem segVal_app_lo {l m : List (Seg α)} {y : Int} (h : ∀ p ∈ m, y < p.1) : segVal e (l ++ m) y = segVal e l y := by
  induction l with
  | nil => rw [List.nil_append, segVal_below h]; rfl
  | cons s t ih =>
    rw [List.cons_append]
    simp only [segVal]
    rw [ih]
theorem can_snoc {s : Seg α} (hs : okS e s) : ∀ {l : List (Seg α)}, Can e l → (∀ p, l.getLast? = some p → link p s) → Can e (l ++ [s])
  | [], _, _ => .one hs
  | [p], h, hl => .cons h.head (hl p rfl) (.one hs)
  | p :: p' :: t, h, hl => by
    cases h with
    | cons h1 h2 h3 =>
      have := can_snoc hs h3 (fun q hq => hl q (by rw [List.getLast?_cons_cons]; exact hq))
      exact .cons h1 h2 this
theorem can_last {b : Int} : ∀ {l : List (Seg α)} {p : Seg α}, Can e (l ++ [p]) → p.1 < b → Can e (l ++ [(p.1, b, p.2.2)])
  | [], p, h, hb => .one ⟨hb, h.head.2⟩
  | [q], p, h, hb => by
    cases h with
    | cons h1 h2 h3 => exact .cons h1 h2 (.one ⟨hb, h3.head.2⟩)
  | q :: q' :: t, p, h, hb => by
    cases h with
    | cons h1 h2 h3 => exact .cons h1 h2 (can_last (l := q' :: t) h3 hb)
def pushS (e : α) (l : List (Seg α)) (s : Seg α) : List (Seg α) :=
  match l.getLast? with
  | some p => if p.2.1 = s.1 ∧ p.2.2 = s.2.2 then l.dropLast ++ [(p.1, s.2.1, s.2.2)] else if s.2.2 = e then l else l ++ [s]
  | none => if s.2.2 = e then l else l ++ [s]
theorem Can.ok {l : List (Seg α)} (h : Can e l) : ∀ p ∈ l, okS e p := by
  induction l with
  | nil => intro p hp; simp at hp
  | cons s t ih =>
    intro p hp
    rcases List.mem_cons.mp hp with rfl | hp
    · exact h.head
    · exact ih h.tail p hp
theorem push_spec {l : List (Seg α)} {s : Seg α} (h : Can e l) (hi : ∀ p ∈ l, p.2.1 ≤ s.1) (hs : s.1 < s.2.1) :
    Can e (pushS e l s) ∧ (∀ p ∈ pushS e l s, p.2.1 ≤ s.2.1) ∧ (∀ p ∈ pushS e l s, p.2.2 = s.2.2 ∨ ∃ q ∈ l, q.2.2 = p.2.2) ∧ ∀ y, segVal e (pushS e l s) y = if s.1 ≤ y ∧ y < s.2.1 then s.2.2 else segVal e l y := by
  have plain : (s.2.2 ≠ e → ∀ p, l.getLast? = some p → link p s) → Can e (if s.2.2 = e then l else l ++ [s]) ∧ (∀ p ∈ (if s.2.2 = e then l else l ++ [s]), p.2.1 ≤ s.2.1) ∧ (∀ p ∈ (if s.2.2 = e then l else l ++ [s]), p.2.2 = s.2.2 ∨ ∃ q ∈ l, q.2.2 = p.2.2) ∧ ∀ y, segVal e (if s.2.2 = e then l else l ++ [s]) y = if s.1 ≤ y ∧ y < s.2.1 then s.2.2 else segVal e l y := by
    intro hl
    by_cases hv : s.2.2 = e
    · rw [if_pos hv]
      refine ⟨h, fun p hp => by have := hi p hp; omega, fun p hp => .inr ⟨p, hp, rfl⟩, fun y => ?_⟩
      by_cases q : s.1 ≤ y ∧ y < s.2.1
      · rw [if_pos q, segVal_over fun p hp => by have := hi p hp; omega]; exact hv.symm
      · rw [if_neg q]
    · rw [if_neg hv]
      refine ⟨can_snoc ⟨hs, hv⟩ h (hl hv), fun p hp => ?_, fun p hp => ?_, fun y => ?_⟩
      · rcases List.mem_append.mp hp with hp | hp
        · have := hi p hp; omega
        · simp at hp; subst hp; exact Int.le_refl _
      · rcases List.mem_append.mp hp with hp | hp
        · exact .inr ⟨p, hp, rfl⟩
        · simp at hp; subst hp; exact .inl rfl
      · by_cases q : s.1 ≤ y
        · rw [segVal_app_hi fun p hp => by have := hi p hp; omega, segVal_over (l := l) fun p hp => by have := hi p hp; omega]
          rfl
        · rw [segVal_app_lo fun p hp => by simp at hp; subst hp; omega, if_neg (by omega)]
  unfold pushS
  cases hg : l.getLast? with
  | none => exact plain fun _ p hp => by rw [hg] at hp; cases hp
  | some p =>
    by_cases q : p.2.1 = s.1 ∧ p.2.2 = s.2.2
    · simp only
      rw [if_pos q]
      obtain ⟨l', rfl⟩ : ∃ l', l = l' ++ [p] := by
        have hne : l ≠ [] := by rintro rfl; simp at hg
        refine ⟨l.dropLast, ?_⟩
        have := List.dropLast_concat_getLast hne
        rw [List.getLast?_eq_some_getLast hne] at hg
        cases hg
        exact this.symm
      rw [List.dropLast_concat]
      have hp := h.ok p (by simp)
      have hpi := hi p (by simp)
      have h' := can_last (b := s.2.1) h (by have := hp.1; omega)
      rw [q.2] at h'
      have above : ∀ r ∈ l', r.2.1 ≤ p.1 := by
        intro r hr
        clear hi h' plain hg
        induction l' with
        | nil => simp at hr
        | cons t l' ih =>
          rcases List.mem_cons.mp hr with rfl | hr
          · exact h.above p (by simp)
          · exact ih h.tail hr
      refine ⟨h', fun r hr => ?_, fun r hr => ?_, fun y => ?_⟩
      · rcases List.mem_append.mp hr with hr | hr
        · have := hi r (by simp [hr]); omega
        · simp at hr; subst hr; exact Int.le_refl _
      · rcases List.mem_append.mp hr with hr | hr
        · exact .inr ⟨r, by simp [hr], rfl⟩
        · simp at hr; subst hr; exact .inl rfl
      · by_cases c : p.1 ≤ y
        · rw [segVal_app_hi fun r hr => by have := above r hr; omega, segVal_app_hi fun r hr => by have := above r hr; omega]
          simp only [segVal]
          have := hp.1
          by_cases c2 : y < s.2.1
          · rw [if_pos ⟨c, c2⟩]
            by_cases c3 : s.1 ≤ y
            · rw [if_pos ⟨c3, c2⟩]
            · rw [if_neg (by omega), if_pos (by omega), q.2]
          · rw [if_neg (by omega), if_neg (by omega), if_neg (by omega)]
        · rw [segVal_app_lo fun r hr => by simp at hr; subst hr; omega, segVal_app_lo fun r hr => by simp at hr; subst hr; omega, if_neg (by have := hp.1; omega)]
    · simp only
      rw [if_neg q]
      refine plain fun hv p' hp' => ?_
      rw [hg] at hp'; cases hp'
      have hpm : p ∈ l := List.mem_of_getLast? hg
      exact ⟨hi p hpm, fun z w => q ⟨z, w⟩⟩
/-- one behind the other -/
def Chain (l : List (Seg α)) : Prop := l.Pairwise (fun s s' => s.2.1 ≤ s'.1) ∧ ∀ s ∈ l, s.1 < s.2.1
def stackS (e : α) (l : List (Seg α)) : List (Seg α) := l.foldl (pushS e) []
theorem stack_spec {l : List (Seg α)} (h : Chain l) : Can e (stackS e l) ∧ (∀ p ∈ stackS e l, ∃ q ∈ l, q.2.2 = p.2.2) ∧ ∀ y, segVal e (stackS e l) y = segVal e l y := by
  have go : ∀ (m k : List (Seg α)), Chain m → Can e k → (∀ p ∈ k, ∀ s ∈ m, p.2.1 ≤ s.1) → Can e (m.foldl (pushS e) k) ∧ (∀ p ∈ m.foldl (pushS e) k, (∃ q ∈ m, q.2.2 = p.2.2) ∨ ∃ q ∈ k, q.2.2 = p.2.2) ∧ ∀ y, segVal e (m.foldl (pushS e) k) y = if segVal e m y = e then segVal e k y else segVal e m y := by
    intro m
    induction m with
    | nil =>
      intro k _ hk _
      exact ⟨hk, fun p hp => .inr ⟨p, hp, rfl⟩, fun y => by simp [segVal]⟩
    | cons s m ih =>
      intro k hc hk hi
      have hp := List.pairwise_cons.mp hc.1
      obtain ⟨p1, p2, p3, p4⟩ := push_spec (s := s) hk (fun p hp => hi p hp s List.mem_cons_self) (hc.2 s List.mem_cons_self)
      obtain ⟨q1, q2, q3⟩ := ih (pushS e k s) ⟨hp.2, fun t ht => hc.2 t (List.mem_cons_of_mem _ ht)⟩ p1 (fun p hp' t ht => by have := p2 p hp'; have := hp.1 t ht; omega)
      refine ⟨q1, fun p hp' => ?_, fun y => ?_⟩
      · rcases q2 p hp' with ⟨q, h1, h2⟩ | ⟨q, h1, h2⟩
        · exact .inl ⟨q, List.mem_cons_of_mem _ h1, h2⟩
        · rcases p3 q h1 with h3 | ⟨r, h3, h4⟩
          · exact .inl ⟨s, List.mem_cons_self, by rw [← h3, h2]⟩
          · exact .inr ⟨r, h3, by rw [h4, h2]⟩
      · rw [List.foldl_cons, q3, p4]
        by_cases c : s.1 ≤ y ∧ y < s.2.1
        · have e1 : segVal e (s :: m) y = s.2.2 := by simp only [segVal, if_pos c]
          have e2 : segVal e m y = e := segVal_below (l := m) fun p hp' => by have := hp.1 p hp'; omega
          simp only [e1, e2, if_pos c, if_true]
          by_cases c2 : s.2.2 = e
          · simp only [if_pos c2]
            rw [c2, segVal_over fun p hp' => by have := hi p hp' s List.mem_cons_self; omega]
          · simp only [if_neg c2]
        · have e1 : segVal e (s :: m) y = segVal e m y := by simp only [segVal, if_neg c]
          simp only [e1, if_neg c]
  obtain ⟨q1, q2, q3⟩ := go l [] h .nil (by simp)
  refine ⟨q1, fun p hp => ?_, fun y => ?_⟩
  · rcases q2 p hp with h | ⟨q, h, _⟩
    · exact h
    · simp at h
  · rw [stackS, q3]
    by_cases c : segVal e l y = e
    · rw [if_pos c, c]; rfl
    · rw [if_neg c]
end
end DL

/-! Edges of a line; lines put together. -/
namespace DL
def inE : List Int → Int → Bool
  | [], _ => false
  | c :: t, x => decide (c ≤ x) && !inE t x
abbrev Asc (es : List Int) : Prop := es.Pairwise (· < ·)
def par (es : List Int) : Bool := decide (es.length % 2 = 1)
theorem par_nil : par [] = false := rfl
theorem par_cons (c : Int) (es : List Int) : par (c :: es) = !par es := by
  unfold par
  rw [List.length_cons]
  by_cases h : es.length % 2 = 1
  · rw [decide_eq_true h, decide_eq_false (by omega)]; rfl
  · rw [decide_eq_false h, decide_eq_true (by omega)]; rfl
theorem par_snoc (c : Int) (es : List Int) : par (es ++ [c]) = !par es := by
  unfold par
  rw [List.length_append, List.length_singleton]
  by_cases h : es.length % 2 = 1
  · rw [decide_eq_true h, decide_eq_false (by omega)]; rfl
  · rw [decide_eq_false h, decide_eq_true (by omega)]; rfl
theorem inE_below {es : List Int} {x : Int} (h : ∀ c ∈ es, x < c) : inE es x = false := by
  cases es with
  | nil => rfl
  | cons c t =>
    unfold inE
    have := h c List.mem_cons_self
    rw [decide_eq_false (by omega)]; rfl
theorem inE_over {es : List Int} {x : Int} (h : ∀ c ∈ es, c ≤ x) : inE es x = par es := by
  induction es with
  | nil => rfl
  | cons c t ih =>
    unfold inE
    rw [decide_eq_true (h c List.mem_cons_self), par_cons, ih fun d hd => h d (List.mem_cons_of_mem _ hd)]; rfl
theorem inE_app_lo {es m : List Int} {x : Int} (h : ∀ c ∈ m, x < c) : inE (es ++ m) x = inE es x := by
  induction es with
  | nil => rw [List.nil_append, inE_below h]; rfl
  | cons c t ih => rw [List.cons_append]; simp only [inE]; rw [ih]
theorem inE_uniq : ∀ {es fs : List Int}, Asc es → Asc fs → (∀ x, inE es x = inE fs x) → es = fs
  | [], [], _, _, _ => rfl
  | [], c :: t, _, h, e => by
    have h1 := e c
    have hp := List.pairwise_cons.mp h
    simp only [inE] at h1
    rw [decide_eq_true (Int.le_refl c), inE_below fun d hd => hp.1 d hd] at h1
    cases h1
  | c :: t, [], h, _, e => by
    have h1 := e c
    have hp := List.pairwise_cons.mp h
    simp only [inE] at h1
    rw [decide_eq_true (Int.le_refl c), inE_below fun d hd => hp.1 d hd] at h1
    cases h1
  | c :: t, c' :: t', h, h', e => by
    have hp := List.pairwise_cons.mp h
    have hp' := List.pairwise_cons.mp h'
    have e1 : c = c' := by
      rcases Int.lt_trichotomy c c' with q | q | q
      · have h1 := e c
        simp only [inE] at h1
        rw [decide_eq_true (Int.le_refl c), inE_below fun d hd => hp.1 d hd, decide_eq_false (by omega)] at h1
        cases h1
      · exact q
      · have h1 := e c'
        simp only [inE] at h1
        rw [decide_eq_true (Int.le_refl c'), inE_below fun d hd => hp'.1 d hd, decide_eq_false (by omega)] at h1
        cases h1
    subst e1
    rw [inE_uniq hp.2 hp'.2 fun x => ?_]
    by_cases q : x < c
    · rw [inE_below fun d hd => by have := hp.1 d hd; omega, inE_below fun d hd => by have := hp'.1 d hd; omega]
    · have h1 := e x
      simp only [inE] at h1
      rw [decide_eq_true (by omega : c ≤ x)] at h1
      cases h2 : inE t x <;> cases h3 : inE t' x <;> rw [h2, h3] at h1 <;> simp at h1 <;> rfl
structure EOk (es : List Int) : Prop where
  asc : Asc es
  even : es.length % 2 = 0
theorem EOk.par {es : List Int} (h : EOk es) : par es = false := by
  unfold DL.par
  rw [decide_eq_false]
  have := h.even
  omega
theorem eok_nil : EOk [] := ⟨List.Pairwise.nil, rfl⟩
theorem eok_two {a b : Int} (h : a < b) : EOk [a, b] := ⟨by simp [h], by simp⟩
theorem inE_two (a b x : Int) (h : a < b) : inE [a, b] x = decide (a ≤ x ∧ x < b) := by
  simp only [inE]
  by_cases h1 : a ≤ x <;> by_cases h2 : b ≤ x <;> simp [h1, h2] <;> omega
/-! squares put into a line, one behind the other -/
def addE (es : List Int) (x : Int) : List Int := if es.getLast? = some x then es.dropLast ++ [x + 1] else es ++ [x, x + 1]
theorem asc_snoc {es : List Int} {c : Int} (h : Asc es) (hc : ∀ d ∈ es, d < c) : Asc (es ++ [c]) := by
  refine List.pairwise_append.mpr ⟨h, by simp, fun a ha b hb => ?_⟩
  simp at hb; subst hb
  exact hc a ha
theorem asc_last {es : List Int} {c : Int} (h : Asc (es ++ [c])) : ∀ d ∈ es, d < c := fun d hd => (List.pairwise_append.mp h).2.2 d hd c (by simp)
theorem addE_spec {es : List Int} {x : Int} (h : EOk es) (hi : ∀ c ∈ es, c ≤ x) : EOk (addE es x) ∧ (∀ c ∈ addE es x, c ≤ x + 1) ∧ ∀ z, inE (addE es x) z = (decide (z = x) || inE es z) := by
  unfold addE
  by_cases hl : es.getLast? = some x
  · rw [if_pos hl]
    obtain ⟨f, rfl⟩ : ∃ f, es = f ++ [x] := by
      have hne : es ≠ [] := by rintro rfl; simp at hl
      have := List.dropLast_concat_getLast hne
      rw [List.getLast?_eq_some_getLast hne] at hl
      injection hl with hl
      exact ⟨es.dropLast, by rw [← hl]; exact this.symm⟩
    rw [List.dropLast_concat]
    have ha := (List.pairwise_append.mp h.asc).1
    have hb := asc_last h.asc
    have hp : par f = true := by
      have := h.par
      rw [par_snoc] at this
      cases q : par f <;> rw [q] at this <;> simp at this <;> rfl
    refine ⟨⟨asc_snoc ha fun d hd => by have := hb d hd; omega, by have := h.even; simpa using this⟩, fun c hc => ?_, fun z => ?_⟩
    · rcases List.mem_append.mp hc with hc | hc
      · have := hb c hc; omega
      · simp at hc; omega
    · rcases Int.lt_trichotomy z x with q | q | q
      · rw [inE_app_lo (m := [x + 1]) fun c hc => by simp at hc; omega, inE_app_lo (m := [x]) fun c hc => by simp at hc; omega, decide_eq_false (by omega)]; rfl
      · subst q
        rw [inE_app_lo (m := [z + 1]) fun c hc => by simp at hc; omega, inE_over fun c hc => by have := hb c hc; omega, hp, decide_eq_true rfl]; rfl
      · rw [inE_over fun c hc => by
            rcases List.mem_append.mp hc with hc | hc
            · have := hb c hc; omega
            · simp at hc; omega, inE_over fun c hc => by
            rcases List.mem_append.mp hc with hc | hc
            · have := hb c hc; omega
            · simp at hc; omega, par_snoc, par_snoc, decide_eq_false (by omega)]; rfl
  · rw [if_neg hl]
    have hb : ∀ c ∈ es, c < x := by
      intro c hc
      rcases Int.lt_or_eq_of_le (hi c hc) with q | q
      · exact q
      · exfalso
        subst q
        have hne : es ≠ [] := by rintro rfl; simp at hc
        have e := List.dropLast_concat_getLast hne
        have h1 : c ≤ es.getLast hne := by
          rw [← e] at hc
          rcases List.mem_append.mp hc with hc | hc
          · have := asc_last (es := es.dropLast) (c := es.getLast hne) (by rw [e]; exact h.asc) c hc
            omega
          · simp at hc; omega
        have h2 := hi _ (List.getLast_mem hne)
        exact hl (by rw [List.getLast?_eq_some_getLast hne]; congr 1; omega)
    have a1 : Asc (es ++ [x]) := asc_snoc h.asc hb
    have a2 : Asc (es ++ [x] ++ [x + 1]) := asc_snoc a1 fun d hd => by
      rcases List.mem_append.mp hd with hd | hd
      · have := hb d hd; omega
      · simp at hd; omega
    have e2 : es ++ [x, x + 1] = es ++ [x] ++ [x + 1] := by simp
    rw [e2]
    refine ⟨⟨a2, by have := h.even; simp; omega⟩, fun c hc => ?_, fun z => ?_⟩
    · simp at hc
      rcases hc with hc | hc | hc
      · have := hb c hc; omega
      · omega
      · omega
    · rcases Int.lt_trichotomy z x with q | q | q
      · rw [inE_app_lo (m := [x + 1]) fun c hc => by simp at hc; omega, inE_app_lo (m := [x]) fun c hc => by simp at hc; omega, decide_eq_false (by omega)]; rfl
      · subst q
        rw [inE_app_lo (m := [z + 1]) fun c hc => by simp at hc; omega, inE_over fun c hc => by
            rcases List.mem_append.mp hc with hc | hc
            · have := hb c hc; omega
            · simp at hc; omega, par_snoc, h.par, decide_eq_true rfl]; rfl
      · rw [inE_over fun c hc => by
            simp at hc
            rcases hc with hc | hc | hc
            · have := hb c hc; omega
            · omega
            · omega, inE_over fun c hc => by have := hb c hc; omega, par_snoc, par_snoc, h.par, decide_eq_false (by omega)]; rfl
/-! two lines put together -/
abbrev Wt := Bool → Bool → Bool
/-- at a cut: how many edges of each are behind, and the edges so far -/
def ceStep (f s : List Int) (w : Wt) (t : Nat × Nat × List Int) (x : Int) : Nat × Nat × List Int :=
  let i := if f[t.1]? = some x then t.1 + 1 else t.1
  let j := if s[t.2.1]? = some x then t.2.1 + 1 else t.2.1
  (i, j, if w (decide (i % 2 = 1)) (decide (j % 2 = 1)) ≠ par t.2.2 then t.2.2 ++ [x] else t.2.2)
def ceLoop (f s : List Int) (w : Wt) (cs : List Int) : Nat × Nat × List Int := cs.foldl (ceStep f s w) (0, 0, [])
structure CeI (f s : List Int) (w : Wt) (pr rem : List Int) (t : Nat × Nat × List Int) : Prop where
  fs : ∃ f1 f2, f = f1 ++ f2 ∧ t.1 = f1.length ∧ (∀ c ∈ f1, c ∈ pr) ∧ ∀ c ∈ f2, c ∈ rem
  ss : ∃ f1 f2, s = f1 ++ f2 ∧ t.2.1 = f1.length ∧ (∀ c ∈ f1, c ∈ pr) ∧ ∀ c ∈ f2, c ∈ rem
  sub : ∀ c ∈ t.2.2, c ∈ pr
  asc : Asc t.2.2
  val : ∀ x, (∀ c ∈ rem, x < c) → inE t.2.2 x = w (inE f x) (inE s x)
theorem ce_side {f f1 f2 pr rem : List Int} {c : Int} {i : Nat} (e : f = f1 ++ f2) (hi : i = f1.length) (h1 : ∀ d ∈ f1, d ∈ pr) (h2 : ∀ d ∈ f2, d ∈ c :: rem) (ha : Asc f) (hc : Asc (pr ++ c :: rem)) :
    ∃ g1 g2, f = g1 ++ g2 ∧ (if f[i]? = some c then i + 1 else i) = g1.length ∧ (∀ d ∈ g1, d ∈ pr ++ [c]) ∧ (∀ d ∈ g2, d ∈ rem) ∧ ∀ x, c ≤ x → (∀ d ∈ rem, x < d) → inE f x = decide ((if f[i]? = some c then i + 1 else i) % 2 = 1) := by
  have hpc : ∀ d ∈ pr, d < c := fun d hd => (List.pairwise_append.mp hc).2.2 d hd c (by simp)
  have key : ∀ g1 g2 : List Int, f = g1 ++ g2 → (∀ d ∈ g1, d ∈ pr ++ [c]) → (∀ d ∈ g2, d ∈ rem) → ∀ x, c ≤ x → (∀ d ∈ rem, x < d) → inE f x = decide (g1.length % 2 = 1) := fun g1 g2 e q1 q2 x hx hr => by
    rw [e, inE_app_lo fun d hd => hr d (q2 d hd), inE_over fun d hd => ?_]; rfl
    have := q1 d hd
    rcases List.mem_append.mp this with q | q
    · have := hpc d q; omega
    · simp at q; omega
  have hget : f[i]? = f2[0]? := by rw [e, hi, List.getElem?_append_right (Nat.le_refl _), Nat.sub_self]
  cases f2 with
  | nil =>
    have hn : ¬ f[i]? = some c := by rw [hget]; simp
    rw [if_neg hn]
    exact ⟨f1, [], e, hi, fun d hd => by simp [h1 d hd], by simp, fun x a b => by rw [hi]; exact key f1 [] e (fun d hd => by simp [h1 d hd]) (by simp) x a b⟩
  | cons a f2 =>
    have ha2 := List.pairwise_cons.mp (List.pairwise_append.mp (e ▸ ha)).2.1
    by_cases q : a = c
    · subst q
      have hs : f[i]? = some a := by rw [hget]; rfl
      rw [if_pos hs]
      have g2 : ∀ d ∈ f2, d ∈ rem := fun d hd => by
        rcases List.mem_cons.mp (h2 d (by simp [hd])) with z | z
        · have := ha2.1 d hd; omega
        · exact z
      have g1 : ∀ d ∈ f1 ++ [a], d ∈ pr ++ [a] := fun d hd => by
        rcases List.mem_append.mp hd with z | z
        · simp [h1 d z]
        · simp at z; simp [z]
      have e' : f = (f1 ++ [a]) ++ f2 := by rw [e]; simp
      have hl : i + 1 = (f1 ++ [a]).length := by rw [hi]; simp
      exact ⟨f1 ++ [a], f2, e', hl, g1, g2, fun x p q => by rw [hl]; exact key _ _ e' g1 g2 x p q⟩
    · have hn : ¬ f[i]? = some c := by rw [hget]; simpa using q
      rw [if_neg hn]
      have g2 : ∀ d ∈ a :: f2, d ∈ rem := fun d hd => by
        have hac : c < a := by
          rcases List.mem_cons.mp (h2 a (by simp)) with z | z
          · exact absurd z q
          · exact (List.pairwise_cons.mp (List.pairwise_append.mp hc).2.1).1 a z
        rcases List.mem_cons.mp (h2 d hd) with z | z
        · rcases List.mem_cons.mp hd with w | w
          · omega
          · have := ha2.1 d w; omega
        · exact z
      have g1 : ∀ d ∈ f1, d ∈ pr ++ [c] := fun d hd => by simp [h1 d hd]
      exact ⟨f1, a :: f2, e, hi, g1, g2, fun x p q => by rw [hi]; exact key _ _ e g1 g2 x p q⟩
theorem ce_step {f s : List Int} {w : Wt} {pr rem : List Int} {c : Int} {t : Nat × Nat × List Int} (hf : Asc f) (hs : Asc s) (hc : Asc (pr ++ c :: rem)) (h : CeI f s w pr (c :: rem) t) : CeI f s w (pr ++ [c]) rem (ceStep f s w t c) := by
  have hpc : ∀ d ∈ pr, d < c := fun d hd => (List.pairwise_append.mp hc).2.2 d hd c (by simp)
  obtain ⟨f1, f2, e1, e2, e3, e4⟩ := h.fs
  obtain ⟨s1, s2, d1, d2, d3, d4⟩ := h.ss
  obtain ⟨g1, g2, a1, a2, a3, a4, a5⟩ := ce_side e1 e2 e3 e4 hf hc
  obtain ⟨r1, r2, b1, b2, b3, b4, b5⟩ := ce_side d1 d2 d3 d4 hs hc
  unfold ceStep
  generalize (if f[t.1]? = some c then t.1 + 1 else t.1) = i' at *
  generalize (if s[t.2.1]? = some c then t.2.1 + 1 else t.2.1) = j' at *
  have hall : ∀ d ∈ t.2.2, d < c := fun d hd => hpc d (h.sub d hd)
  refine ⟨⟨g1, g2, a1, a2, a3, a4⟩, ⟨r1, r2, b1, b2, b3, b4⟩, fun d hd => ?_, ?_, fun x hx => ?_⟩ <;> simp only at *
  · split at hd
    · rcases List.mem_append.mp hd with z | z
      · simp [h.sub d z]
      · simp at z; simp [z]
    · simp [h.sub d hd]
  · split
    · exact asc_snoc h.asc hall
    · exact h.asc
  · by_cases q : c ≤ x
    · rw [a5 x q hx, b5 x q hx]
      split
      · rename_i hne
        rw [inE_over fun d hd => by
          rcases List.mem_append.mp hd with z | z
          · have := hall d z; omega
          · simp at z; omega, par_snoc]
        cases q1 : par t.2.2 <;> rw [q1] at hne <;> simp at hne <;> simp [hne]
      · rename_i hne
        rw [inE_over fun d hd => by have := hall d hd; omega]
        exact (Classical.not_not.mp hne).symm
    · have hv := h.val x fun d hd => by
        rcases List.mem_cons.mp hd with z | z
        · omega
        · exact hx d z
      rw [← hv]
      split
      · exact inE_app_lo fun d hd => by simp at hd; omega
      · rfl
theorem ce_spec {f s : List Int} {w : Wt} {cs : List Int} (hf : EOk f) (hs : EOk s) (hc : Asc cs) (h1 : ∀ c ∈ f, c ∈ cs) (h2 : ∀ c ∈ s, c ∈ cs) (hw : w false false = false) : EOk (ceLoop f s w cs).2.2 ∧ (∀ c ∈ (ceLoop f s w cs).2.2, c ∈ cs) ∧ ∀ x, inE (ceLoop f s w cs).2.2 x = w (inE f x) (inE s x) := by
  have go : ∀ (rem pr : List Int) t, cs = pr ++ rem → CeI f s w pr rem t → CeI f s w cs [] (rem.foldl (ceStep f s w) t) := by
    intro rem
    induction rem with
    | nil => intro pr t e h; rw [List.append_nil] at e; rw [e]; exact h
    | cons c rem ih => intro pr t e h; exact ih (pr ++ [c]) _ (by rw [e]; simp) (ce_step hf.asc hs.asc (e ▸ hc) h)
  have h0 := go cs [] (0, 0, []) rfl ⟨⟨[], f, rfl, rfl, by simp, h1⟩, ⟨[], s, rfl, rfl, by simp, h2⟩, by simp, List.Pairwise.nil, fun x hx => by rw [inE_below (es := f) fun c hc => hx c (h1 c hc), inE_below (es := s) fun c hc => hx c (h2 c hc), hw]; rfl⟩
  refine ⟨⟨h0.asc, ?_⟩, h0.sub, fun x => h0.val x (by simp)⟩
  have ub : ∃ b : Int, ∀ c ∈ cs, c ≤ b := by
    clear h0 go hc h1 h2
    induction cs with
    | nil => exact ⟨0, by simp⟩
    | cons c cs ih =>
      obtain ⟨b, hb⟩ := ih
      exact ⟨max b c, fun d hd => by
        rcases List.mem_cons.mp hd with rfl | hd
        · omega
        · have := hb d hd; omega⟩
  obtain ⟨b, hb⟩ := ub
  have hv := h0.val b (by simp)
  rw [inE_over fun c hc => hb c (h0.sub c hc), inE_over fun c hc => hb c (h1 c hc), inE_over fun c hc => hb c (h2 c hc), hf.par, hs.par, hw] at hv
  unfold par at hv
  have := of_decide_eq_false hv
  show (ceLoop f s w cs).2.2.length % 2 = 0
  unfold ceLoop
  omega
end DL

/-! sorted: of ints, of squares; lists, dicts. -/
namespace DL
open PySem PySem.Spec PyProof.Rows L2
theorem perm_srt_eq {α : Type} {r : α → α → Prop} (as : ∀ a b, r a b → r b a → a = b) : ∀ {l m : List α}, l.Perm m → l.Pairwise r → m.Pairwise r → l = m
  | [], m, p, _, _ => (List.Perm.eq_nil p.symm).symm
  | x :: l, [], p, _, _ => absurd p.length_eq (by simp)
  | x :: l, y :: m, p, hl, hm => by
    have e : x = y := by
      rcases List.mem_cons.mp (p.mem_iff.mp List.mem_cons_self) with e | hx
      · exact e
      · rcases List.mem_cons.mp (p.mem_iff.mpr List.mem_cons_self) with e | hy
        · exact e.symm
        · exact as _ _ ((List.pairwise_cons.mp hl).1 _ hy) ((List.pairwise_cons.mp hm).1 _ hx)
    subst e
    rw [perm_srt_eq as p.cons_inv (List.pairwise_cons.mp hl).2 (List.pairwise_cons.mp hm).2]
def srtI (ns : List Int) : List Int := ns.mergeSort (fun a b => decide (a ≤ b))
theorem srtI_perm (ns : List Int) : (srtI ns).Perm ns := List.mergeSort_perm _ _
theorem srtI_srt (ns : List Int) : (srtI ns).Pairwise (· ≤ ·) := by
  have h := List.pairwise_mergeSort (le := fun a b : Int => decide (a ≤ b)) (fun a b c h1 h2 => by simp at *; omega) (fun a b => by simp; omega) ns
  exact h.imp fun h => by simpa using h
theorem srtI_eq {ns ms : List Int} (p : ms.Perm ns) (h : ms.Pairwise (· ≤ ·)) : ms = srtI ns :=
  perm_srt_eq (fun a b h1 h2 => by omega) (p.trans (srtI_perm ns).symm) h (srtI_srt ns)
def LeQ (a b : Sq) : Prop := a.1 < b.1 ∨ (a.1 = b.1 ∧ a.2 ≤ b.2)
instance (a b : Sq) : Decidable (LeQ a b) := by unfold LeQ; infer_instance
def srtQ (ks : List Sq) : List Sq := ks.mergeSort (fun a b => decide (LeQ a b))
theorem srtQ_perm (ks : List Sq) : (srtQ ks).Perm ks := List.mergeSort_perm _ _
theorem srtQ_srt (ks : List Sq) : (srtQ ks).Pairwise LeQ := by
  have h := List.pairwise_mergeSort (le := fun a b : Sq => decide (LeQ a b)) (fun a b c h1 h2 => by
    have h1 := of_decide_eq_true h1
    have h2 := of_decide_eq_true h2
    refine decide_eq_true ?_
    unfold LeQ at *
    omega) (fun a b => by
    by_cases h : LeQ a b
    · simp [h]
    · have : LeQ b a := by unfold LeQ at *; omega
      simp [this]) ks
  exact h.imp fun h => by simpa using h
theorem leQ_as (a b : Sq) (h1 : LeQ a b) (h2 : LeQ b a) : a = b := by
  unfold LeQ at h1 h2
  exact Prod.ext (by omega) (by omega)
theorem srtQ_eq {ns ms : List Sq} (p : ms.Perm ns) (h : ms.Pairwise LeQ) : ms = srtQ ns :=
  perm_srt_eq leQ_as (p.trans (srtQ_perm ns).symm) h (srtQ_srt ns)
/-- v stands for the square q -/
theorem isPair_fun {h : Heap} {v : Value} {x y x' y' : Int} (p : Srt.IsPair h v x y) (q : Srt.IsPair h v x' y') : x = x' ∧ y = y' := by
  obtain ⟨a, o, t, u, n, e, ho, hc, hd⟩ := p
  obtain ⟨a', o', t', u', n', e', ho', hc', hd'⟩ := q
  rw [e] at e'; cases e'
  rw [ho] at ho'; cases ho'
  rw [hd] at hd'
  injection hd' with h1 h2
  have h3 := congrArg Array.toList h1
  simp at h3
  exact ⟨h3.1.1, h3.2.1⟩
open Classical in
noncomputable def pairOf (h : Heap) (v : Value) : Sq := if p : ∃ q : Sq, Srt.IsPair h v q.1 q.2 then p.choose else (0, 0)
theorem pairOf_eq {h : Heap} {v : Value} {q : Sq} (p : Srt.IsPair h v q.1 q.2) : pairOf h v = q := by
  have hp : ∃ q : Sq, Srt.IsPair h v q.1 q.2 := ⟨q, p⟩
  unfold pairOf
  rw [dif_pos hp]
  have := isPair_fun hp.choose_spec p
  exact Prod.ext this.1 this.2
inductive All2 {α β : Type} (r : α → β → Prop) : List α → List β → Prop where
  | nil : All2 r [] []
  | cons {a b as bs} (h : r a b) (t : All2 r as bs) : All2 r (a :: as) (b :: bs)
theorem All2.len {α β : Type} {r : α → β → Prop} {as : List α} {bs : List β} (h : All2 r as bs) : as.length = bs.length := by
  induction h with
  | nil => rfl
  | cons _ _ ih => simp [ih]
theorem All2.imp {α β : Type} {r q : α → β → Prop} {as : List α} {bs : List β} (h : All2 r as bs) (i : ∀ a b, r a b → q a b) : All2 q as bs := by
  induction h with
  | nil => exact .nil
  | cons h _ ih => exact .cons (i _ _ h) ih
theorem All2.get {α β : Type} {r : α → β → Prop} : ∀ {as : List α} {bs : List β} {j : Nat} {a : α} {b : β}, All2 r as bs → as[j]? = some a → bs[j]? = some b → r a b
  | _, _, j, _, _, .nil, h, _ => by simp at h
  | _, _, 0, _, _, .cons h t, h1, h2 => by simp at h1 h2; subst h1 h2; exact h
  | _, _, j + 1, _, _, .cons h t, h1, h2 => All2.get (j := j) t (by simpa using h1) (by simpa using h2)
theorem all2_of {α β : Type} {r : α → β → Prop} : ∀ {as : List α} {bs : List β}, as.length = bs.length → (∀ (j : Nat) a b, as[j]? = some a → bs[j]? = some b → r a b) → All2 r as bs
  | [], [], _, _ => .nil
  | [], _ :: _, h, _ => by simp at h
  | _ :: _, [], h, _ => by simp at h
  | a :: as, b :: bs, h, f => .cons (f 0 a b rfl rfl) (all2_of (by simpa using h) fun j x y h1 h2 => f (j + 1) x y (by simpa using h1) (by simpa using h2))
theorem kt_all2 {H : Hp} : ∀ {ks : List Sq} {xs : List (List Key × Addr × Value)}, Paired (fun (p : List Key × V) (q : List Key × Addr × Value) => p.1 = q.1 ∧ H q.2.1 = some (.tup (p.1.map kV)) ∧ RelV p.2 q.2.2) (tT ks) xs → All2 (fun (x : List Key × Addr × Value) (q : Sq) => H x.2.1 = some (.tup [.int q.1, .int q.2])) xs ks
  | [], _, .nil => .nil
  | k :: ks, _, .cons h t => .cons h.2.1 (kt_all2 t)
theorem all2_map {α β γ : Type} {r : α → β → Prop} {f : γ → α} {g : γ → β} : ∀ {its : List γ} {xs : List α} {ks : List β}, All2 r xs ks → xs = its.map f → ks = its.map g → ∀ u ∈ its, r (f u) (g u)
  | [], _, _, _, _, _, u, hu => by simp at hu
  | i :: its, _, _, .nil, e, _, u, hu => by simp at e
  | i :: its, _, _, .cons h t, e1, e2, u, hu => by
    rw [List.map_cons] at e1 e2
    injection e1 with h1 t1
    injection e2 with h2 t2
    rcases List.mem_cons.mp hu with rfl | hu
    · rw [← h1, ← h2]; exact h
    · exact all2_map t t1 t2 u hu
theorem pairs_of {h : Heap} {vs : List Value} {ks : List Sq} (a : All2 (fun v q => Srt.IsPair h v q.1 q.2) vs ks) : vs.map (pairOf h) = ks ∧ ∀ v ∈ vs, Srt.IsPair h v (pairOf h v).1 (pairOf h v).2 := by
  induction a with
  | nil => exact ⟨rfl, by simp⟩
  | cons h t ih =>
    have e := pairOf_eq h
    refine ⟨by rw [List.map_cons, e, ih.1], fun v hv => ?_⟩
    rcases List.mem_cons.mp hv with rfl | hv
    · rw [e]; exact h
    · exact ih.2 v hv
theorem leQ_of {k : Value → Sq} {out : List Value} (h : SrtO.Srtd (fun v u => SrtO.lexB (k v) (k u)) out) : (out.map k).Pairwise LeQ := by
  refine List.pairwise_map.mpr (List.Pairwise.imp ?_ h)
  intro a b hab
  have := SrtO.lexB_no.mp (show SrtO.lexB (k b) (k a) = false from hab)
  unfold LeQ
  omega
/-- a value stands for a square -/
def SqV (K : PySem.W.Frag) (H : Hp) (x : V) (q : Sq) : Prop := ∃ t, x = .ref t ∧ SqT K H t [.int q.1, .int q.2]
section
variable {X : Cx}
theorem sqv_pair {pins : List (Addr × Obj)} {σ : L2.St} {H : Hp} {s : Shared} (I : Inv X pins σ H s) {x : V} {v : Value} {q : Sq} (h : SqV X.K H x q) (r : RelV x v) : Srt.IsPair s.heap v q.1 q.2 := by
  obtain ⟨t, rfl, h1⟩ := h
  cases (show v = Value.ref t from r)
  obtain ⟨its, r2, ⟨o, ho, hc, n, hd⟩, _⟩ := I.tuple h1
  obtain ⟨u1, u2, rfl, ri, rj⟩ := vals2 r2
  obtain ⟨t1, rfl⟩ := ri
  obtain ⟨t2, rfl⟩ := rj
  exact ⟨t, o, t1, t2, n, rfl, ho, hc, hd⟩
theorem call_sortedQ : CallR X (.builtin "sorted") (fun vs H Q => ∃ (a : Addr) (xs : List V) (ks : List Sq), vs = [V.ref a] ∧ SqL X.K H a xs ∧ ∃ P : V → Sq → Prop, (∀ x q, P x q → SqV X.K H x q) ∧ All2 P xs ks ∧ ∀ ys p, All2 P ys (srtQ ks) → H p = none → Q (.ref p) (upd H p (.lst ys))) := by
  intro pins s σ H vs us Q I r h
  obtain ⟨a, xs, ks, rfl, hs, P, hP, hxP, q⟩ := h
  have hx : All2 (SqV X.K H) xs ks := hxP.imp hP
  obtain ⟨its, rv, hl, hz⟩ := I.list hs
  obtain ⟨u, rfl, ru⟩ := vals1 r
  obtain rfl : u = Value.ref a := ru
  have hp : All2 (fun v q => Srt.IsPair s.heap v q.1 q.2) its ks := by
    clear hs hl hz q r hxP
    induction hx generalizing its with
    | nil => cases rv; exact .nil
    | cons h t ih => cases rv with | cons r1 r2 => exact .cons (sqv_pair I h r1) (ih _ r2)
  have hr : ∀ x ∈ xs, ∃ a, x = V.ref a := by
    clear hs hl hz q r rv hp hxP
    induction hx with
    | nil => simp
    | cons h t ih =>
      intro x hx
      rcases List.mem_cons.mp hx with rfl | hx
      · obtain ⟨t, e, _⟩ := h; exact ⟨t, e⟩
      · exact ih x hx
  obtain ⟨e1, e2⟩ := refs_back rv hr
  obtain ⟨p1, p2⟩ := pairs_of hp
  refine SrtO.sorted_pairsO (k := pairOf s.heap) hl.isList (by rw [← rv.length]; exact hz) p2 fun h' d out h1 h2 kp hd hn => ?_
  have hout : ∀ u ∈ out, u ∈ its := fun u hu => h2.perm.mem_iff.mp hu
  have h3 : ∀ u ∈ out, ∃ a, u = Value.ref a := fun u hu => e2 u (hout u hu)
  obtain ⟨n, hn⟩ := hn
  have eq : out.map (pairOf s.heap) = srtQ ks := srtQ_eq (by rw [← p1]; exact h2.perm.map _) (leQ_of h1)
  have each : ∀ u ∈ its, P (backV u) (pairOf s.heap u) := all2_map hxP e1 p1.symm
  refine ⟨.ref d, upd H d (.lst (out.map backV)), I.laid (t' := s.toks) kp hd ⟨?_, out, n, vals_back h3, hn⟩, rfl, q _ d ?_ (I.hok.fresh hd)⟩
  · rw [List.length_map, h2.len, ← rv.length]; exact hz
  · rw [← eq]
    clear eq h3 hn kp hd h1 h2
    induction out with
    | nil => exact .nil
    | cons u out ih => exact .cons (each u (hout u List.mem_cons_self)) (ih fun v hv => hout v (List.mem_cons_of_mem _ hv))
/-- sorted(d), d a dict of squares -/
theorem call_sortedDQ (hcalm : X.calm = true) : CallR X (.builtin "sorted") (fun vs H Q => ∃ (a : Addr) (ks : List Sq), vs = [V.ref a] ∧ Rd H a (.dT (tT ks)) ∧ ∀ ys p, All2 (fun y q => ∃ t, y = V.ref t ∧ H t = some (.tup [.int q.1, .int q.2])) ys (srtQ ks) → H p = none → Q (.ref p) (upd H p (.lst ys))) := by
  intro pins s σ H vs us Q I r h
  obtain ⟨a, ks, rfl, hd, q⟩ := h
  obtain ⟨u, rfl, ru⟩ := vals1 r
  obtain rfl : u = Value.ref a := ru
  obtain ⟨z, lo, xs, rel, o, es, ep, g1, g2, g3, g4, g5⟩ := (show ObjOk X.prog X.w H s.heap a (.dT (tT ks)) from rd_of I.hok hd)
  have hraw : s.heap.DictRaw a es ep := ⟨o, g1, g2, g3⟩
  have rel2 : All2 (fun (x : List Key × Addr × Value) q => H x.2.1 = some (.tup [.int q.1, .int q.2])) xs ks := kt_all2 rel
  have hxl : xs.length = ks.length := rel2.len
  have hes : es.size = ks.length := by rw [← Array.length_toList, g4, List.length_map, hxl]
  have h16 : es.size ≤ sizeLine := by rw [hes, ← tT_len ks]; exact z
  refine Calls.call_function_entry PyProof.Rows.kind_sorted PyProof.Rows.plain_sorted PyProof.Rows.entry_sorted (PyProof.Rows.args_sorted1 _) ?_
  unfold Builtin.«sorted»
  refine wpAny_bind (m := checkCount "sorted" 1 1 _) (wpAny_pure ?_)
  refine wpAny_bind (PySem.W.kdu_collect (A := X.A.in1) (KdlSrc.rawDict lo) (I.ok.hd hcalm) hraw h16 fun h' tk acc hk hacc => ?_)
  have hacc2 : All2 (fun v q => ∃ t, v = Value.ref t ∧ H t = some (.tup [.int q.1, .int q.2])) acc.toList ks := by
    refine all2_of (by rw [Array.length_toList, hacc.1, hes]) fun j v q e1 e2 => ?_
    obtain ⟨hj, e3⟩ := hacc.2 j v (by rw [← Array.getElem?_toList]; exact e1)
    obtain ⟨x, e4⟩ : ∃ x, xs[j]? = some x := ⟨xs[j]'(by rw [hxl, ← hes]; exact hj), by simp [show j < xs.length by rw [hxl, ← hes]; exact hj]⟩
    have e5 : es[j] = entryOfKey (tupleKind (mixKind X.prog X.w)) x := by
      have := congrArg (fun l => l[j]?) g4
      simp only [Array.getElem?_toList, List.getElem?_map, e4, Option.map_some] at this
      rw [Array.getElem?_eq_getElem hj] at this
      exact Option.some.inj this
    exact ⟨x.2.1, by rw [e3, e5]; rfl, rel2.get e4 e2⟩
  have I1 : Inv X pins σ H { s with heap := h', toks := tk } := I.kept hk
  have hp : All2 (fun v q => Srt.IsPair h' v q.1 q.2) acc.toList ks := hacc2.imp fun v q ⟨t, e, ht⟩ => by
    subst e
    exact sqv_pair I1 (x := .ref t) ⟨t, rfl, SqT.of ht⟩ rfl
  obtain ⟨p1, p2⟩ := pairs_of hp
  have hal : acc.toList.length = ks.length := hp.len
  have hz : acc.toList.length ≤ sizeLine := by rw [hal, ← hes]; exact h16
  refine wpAny_bind (wpAny_newList ?_ hz)
  have hoL : (h'.push (seqObj "list" acc.toList.toArray 0)).get? h'.objs.size = some (seqObj "list" acc.toList.toArray 0) := Heap.get?_push_size _ rfl
  show wpAny _ _ _ _ _ { s with heap := h'.push (seqObj "list" acc.toList.toArray 0), toks := tk }
  refine wpAny_bind (wpAny_holding (wpAny_call_entry PyProof.Rows.slot_list_sort ⟨_, hoL, rfl⟩ PyProof.Rows.entry_list_sort
    (SrtO.list_sort_ord (s := { s with heap := h'.push (seqObj "list" acc.toList.toArray 0), toks := tk }) (SrtO.swo_lex (pairOf h')) hoL hz (fun h2 => SrtO.pairs_sortableO (s := { s with heap := h'.push (seqObj "list" acc.toList.toArray 0), toks := tk }) (by omega) (fun v hm => (p2 v hm).keeps fun b o e _ => Heap.get?_push_of_some _ e) fun o e => ?_) fun out h1 h2 => ⟨_, rfl, ?_⟩) (PyProof.Rows.args_list_sort _)))
  · have e' : some o = some (seqObj "list" acc.toList.toArray 0) := e.symm.trans hoL
    cases e'
    intro c
    exact absurd (Value.type.inj c) (by decide)
  obtain ⟨e', he'⟩ := PyProof.Rows.sortedHeap_at (vs := acc.toList) (out := out.toArray) hoL
  have hout : ∀ u ∈ out, u ∈ acc.toList := fun u hu => h2.perm.mem_iff.mp hu
  have each : ∀ u ∈ acc.toList, (∃ t, u = Value.ref t ∧ H t = some (.tup [.int (pairOf h' u).1, .int (pairOf h' u).2])) := all2_map hacc2 (List.map_id _).symm p1.symm
  have h3 : ∀ u ∈ out, ∃ a, u = Value.ref a := fun u hu => by obtain ⟨t, e, _⟩ := each u (hout u hu); exact ⟨t, e⟩
  have eq : out.map (pairOf h') = srtQ ks := srtQ_eq (by rw [← p1]; exact h2.perm.map _) (leQ_of h1)
  refine wpAny_pure ⟨_, rfl, .ref h'.objs.size, upd H h'.objs.size (.lst (out.map backV)), I1.laid (t' := tk) (fun b u e => ?_) (Nat.le_refl _)
    (show ObjOk X.prog X.w _ _ _ (.lst (out.map backV)) from ⟨?_, out, e', vals_back h3, he'⟩), rfl, q _ _ ?_ (I1.hok.fresh (Nat.le_refl _))⟩
  · have hb : b < h'.objs.size := Heap.lt_size e
    rw [PyProof.Rows.sortedHeap_old (Nat.ne_of_lt hb) (by rw [size_push']; exact Nat.lt_succ_of_lt hb)]
    exact Heap.get?_push_of_some _ e
  · rw [List.length_map, h2.len]; exact hz
  · rw [← eq]
    refine all2_of (by simp) fun j y sq e1 e2 => ?_
    rw [List.getElem?_map] at e1 e2
    cases e0 : out[j]? with
    | none => rw [e0] at e1; cases e1
    | some u =>
      rw [e0] at e1 e2
      cases e1; cases e2
      obtain ⟨t, e, ht⟩ := each u (hout u (List.mem_of_getElem? e0))
      exact ⟨t, by rw [e]; rfl, ht⟩
/-! by data -/
theorem sqv_dr {K : PySem.W.Frag} {H0 : Hp} {x : V} {q : Sq} (h : SqV K H0 x q) : DR K H0 (dq q) x := by
  obtain ⟨t, rfl, h⟩ := h
  exact ⟨t, _, rfl, h, _, _, rfl, rfl, _, _, rfl, rfl, rfl⟩
theorem dr_sqv {K : PySem.W.Frag} {H0 : Hp} {x : V} {q : Sq} (h : DR K H0 (dq q) x) : SqV K H0 x q := by
  obtain ⟨t, vs, rfl, h1, r⟩ := h
  obtain ⟨u, v, rfl, e1, e2⟩ := r.two
  cases (show u = _ from e1); cases (show v = _ from e2)
  exact ⟨t, rfl, h1⟩
theorem drs_sqs {K : PySem.W.Frag} {H0 : Hp} : ∀ {ks : List Sq} {vs : List V}, DRs K H0 (ks.map dq) vs → All2 (SqV K H0) vs ks
  | [], vs, h => by cases (show vs = [] from h); exact .nil
  | k :: ks, vs, h => by
    obtain ⟨v, r, rfl, h1, h2⟩ := h
    exact .cons (dr_sqv h1) (drs_sqs h2)
theorem sqs_drs {K : PySem.W.Frag} {H0 : Hp} : ∀ {ks : List Sq} {vs : List V}, All2 (SqV K H0) vs ks → DRs K H0 (ks.map dq) vs
  | _, _, .nil => rfl
  | _, _, .cons h t => ⟨_, _, rfl, sqv_dr h, sqs_drs t⟩
theorem sqv_same {K : PySem.W.Frag} {H H' : Hp} (s : Same H H') {x : V} {q : Sq} (h : SqV K H x q) : SqV K H' x q := by
  obtain ⟨t, e, h⟩ := h
  exact ⟨t, e, Same.seqT s h⟩
/-- all tuples are shared -/
def tupsOf (H0 H : Hp) : Hp := fun a => match H0 a with
  | some o => some o
  | none => match H a with
    | some (.tup xs) => some (.tup xs)
    | _ => none
theorem tups_none {H0 H : Hp} {b : Addr} (e0 : H0 b = none) (nt : ∀ xs, H b ≠ some (.tup xs)) : tupsOf H0 H b = none := by
  unfold tupsOf
  rw [e0]
  cases e : H b with
  | none => rfl
  | some o =>
    cases o with
    | tup xs => exact absurd e (nt xs)
    | _ => rfl
theorem tups_inv {H0 H : Hp} {b : Addr} {u : HO} (e : tupsOf H0 H b = some u) : H0 b = some u ∨ (H0 b = none ∧ H b = some u) := by
  unfold tupsOf at e
  cases e0 : H0 b with
  | some o => rw [e0] at e; cases e; exact .inl rfl
  | none =>
    rw [e0] at e
    cases e1 : H b with
    | none => rw [e1] at e; cases e
    | some o =>
      rw [e1] at e
      cases o with
      | tup xs => cases e; exact .inr ⟨rfl, rfl⟩
      | _ => cases e
theorem JH.tups {H0 H : Hp} (s : Same H0 H) : JH H0 H (tupsOf H0 H) H := by
  refine ⟨fun b u e => by unfold tupsOf; rw [e], fun b u e => ?_, Same.refl _, fun b u e nt e0 => tups_none e0 fun xs h => ?_⟩
  · rcases tups_inv e with h | h
    · exact s b u h
    · exact h.2
  · rw [h] at e; cases e; exact nt
theorem tups_at {H0 H : Hp} (s : Same H0 H) {t : Addr} {xs : List V} (h : H t = some (.tup xs)) : tupsOf H0 H t = some (.tup xs) := by
  unfold tupsOf
  cases e0 : H0 t with
  | some o => have := s t o e0; rw [h] at this; cases this; rfl
  | none => simp only [h]
theorem bo_sortedQ {ks : List Sq} : BO X (.builtin "sorted") [.lst (ks.map dq)] (.lst ((srtQ ks).map dq)) := ⟨_, call_sortedQ, fun H0 H vs Q s r k => by
  obtain ⟨x, rfl, a, ys, rfl, h1, h2⟩ := r.one'
  have g := JH.tups s
  have ho := drs_sqs h2
  refine ⟨a, ys, ks, rfl, s.seq h1, SqV X.K H0, fun _ _ => sqv_same s, ho, fun zs p hz hp => ?_⟩
  exact k p _ H0 _ (JH.own s hp) upd_same (s.free hp) hp ⟨zs, rfl, sqs_drs hz⟩⟩
theorem bo_sortedDQ {ks : List Sq} (hc : X.calm = true) : BO X (.builtin "sorted") [(dicD ks).d] (.lst ((srtQ ks).map dq)) := ⟨_, call_sortedDQ hc, fun H0 H vs Q s r k => by
  obtain ⟨x, rfl, h⟩ := r.one'
  obtain ⟨a, rfl, h1⟩ := dr_dic h
  refine ⟨a, ks, rfl, Same.rd s h1, fun zs p hz hp => ?_⟩
  have g := JH.tups s
  refine k p _ _ _ (g.trans (JH.own g.sh hp)) upd_same (g.sh.free hp) hp ⟨zs, rfl, sqs_drs (hz.imp fun y q ⟨t, e, ht⟩ => ⟨t, e, SqT.of (tups_at s ht)⟩)⟩⟩
theorem bo_sortedI {ns : List Int} : BO X (.builtin "sorted") [.lst (ns.map D.int)] (.lst ((srtI ns).map D.int)) := ⟨_, cr_sortedI, fun H0 H vs Q s r k => by
  obtain ⟨x, rfl, a, ys, rfl, h1, h2⟩ := r.one'
  rw [DRs.ints h2] at h1
  refine ⟨a, ns, rfl, s.seq h1, fun zs p hz1 hz2 hp => ?_⟩
  rw [srtI_eq hz1 hz2]
  exact k p _ _ _ (JH.own s hp) upd_same (s.free hp) hp ⟨_, rfl, DRs.ofInts _⟩⟩
theorem bo_sortedDI {ks : List Int} {ds : List D} (hc : X.calm = true) (hl : ks.length < 64) : BO X (.builtin "sorted") [.dk (ks.map Sum.inl) ds] (.lst ((srtI ks).map D.int)) := ⟨_, call_sortedDI hc, fun H0 H vs Q s r k => by
  obtain ⟨x, rfl, a, ys, rfl, h1, hlen, h2⟩ := r.one'
  refine ⟨a, _, ks, rfl, Same.rd s h1, by rw [List.map_fst_zip (by rw [hlen]; exact Nat.le_refl _)], hl, fun zs p hz1 hz2 hp => ?_⟩
  rw [srtI_eq hz1 hz2]
  exact k p _ _ _ (JH.own s hp) upd_same (s.free hp) hp ⟨_, rfl, DRs.ofInts _⟩⟩
theorem valV_at {κ : Type} [DecidableEq κ] : ∀ {ks : List κ} {vs : List V} {k : κ} {v : V} {m : Nat}, ks.Nodup → ks[m]? = some k → vs[m]? = some v → valV (ks.zip vs) k = some v
  | [], _, _, _, m, _, h, _ => by simp at h
  | _ :: _, [], _, _, m, _, _, h => by simp at h
  | k0 :: ks, v0 :: vs, k, v, 0, _, h1, h2 => by simp at h1 h2; subst h1 h2; simp [valV]
  | k0 :: ks, v0 :: vs, k, v, m + 1, nd, h1, h2 => by
    have nd := List.nodup_cons.mp nd
    have e : k0 ≠ k := fun z => nd.1 (z ▸ List.mem_of_getElem? (by simpa using h1))
    have ih := valV_at (m := m) nd.2 (by simpa using h1) (by simpa using h2)
    rw [← ih]
    simp only [List.zip_cons_cons, valV, List.find?_cons]
    rw [decide_eq_false e]
/-- lines[y] -/
theorem ed_dgetI {ρ : En} {a b : Expr} {pos : Pos} {ks : List Key} {ds : List D} {k0 : Key} {kd d : D} {m : Nat} (hu : X.A.units + 64 < cLine) (ha : ED X ρ a (.dk ks ds)) (hb : ED X ρ b kd) (hk : ∀ (K : PySem.W.Frag) (H : Hp) v, DR K H kd v → v = kV k0) (nd : ks.Nodup) (h1 : ks[m]? = some k0) (h2 : ds[m]? = some d) (hs : NoSl b := by exact fun _ _ => rfl) : ED X ρ (.Subscript a b pos) d := fun B0 B σ H0 H Q j kk => by
  refine RE.of (pe_dget (by omega) pe_star pe_star hs) (ha B0 B σ H0 H _ j fun x G0 G g1 r1 => hb B0 B σ G0 G _ (j.grow g1) fun y L0 L g2 r2 => ?_)
  obtain ⟨p, vs, rfl, e1, e2, r⟩ := DR.mono g2.s0 _ _ r1
  rw [hk _ _ _ r2]
  obtain ⟨v, e3, e4⟩ := DRs.get r h2
  refine ⟨p, v, rfl, .inl ⟨_, k0, Same.rd g2.sh e1, rfl, ?_⟩, kk v L0 L (g1.trans g2) e4⟩
  exact (valV_at nd h1 e3).symm
/-- the keys of a dict that was just made -/
theorem pi_keysL {tg e : Expr} {te : TE} (he : PE X e te) : PI X tg e (fun σ H R => te σ H fun x H1 => ∃ (a : Addr) (kvs : List (List Key × V)), x = .ref a ∧ H1 a = some (.dT kvs) ∧ ∀ od, R (Itkt a od kvs) (upd H1 a (.frz od (.dT kvs)))) := by
  refine ⟨fun pins s σ H R I h => ?_⟩
  refine thn (he.run pins s σ H _ I h) fun u s1 ⟨x, H1, I0, rx, d, kvs, ex, hd0, q⟩ => ?_
  subst ex
  obtain rfl : u = Value.ref d := rx
  obtain ⟨o, I1⟩ := I0.lock hd0 trivial
  have hd : (upd H1 d (.frz o (.dT kvs))) d = some (.frz o (.dT kvs)) := upd_same
  obtain ⟨hs, hgd, hx, es, ep, hdt, hsz, ent⟩ := I1.frzT hd
  refine iter_keys hs hgd hx hdt (pi_one (tk := s1.toks) I1 _ (turn_keysT _ hdt) ⟨_, Heap.get?_push_size _ rfl, rfl, ?_⟩ (q o))
  rw [hsz] <;> rfl
theorem id_sqE {ρ : En} {tg e : Expr} {ks : List Sq} (h : EO X ρ e (dicD ks)) : ID X ρ tg e (ks.map dq) := fun B0 B σ H0 H R j k =>
  ⟨_, pi_keysL pe_star, h B0 B σ H0 H _ j fun a o G0 G g h1 h2 h3 r => by
    cases ocr_dic.mp r
    refine ⟨a, tT ks, rfl, h1, fun od => ?_⟩
    have ne0 : ∀ b u, G0 b = some u → b ≠ a := fun b u e => ne_of_none e h2
    have gg : JH H0 H (upd G0 a (.frz od (.dT (tT ks)))) (upd G a (.frz od (.dT (tT ks)))) := by
      refine ⟨fun b u e => upd_keep (g.s0 b u e) (ne0 b u (g.s0 b u e)), fun b u e => ?_, fun b u e => upd_keep (g.sB b u e) (ne_of_none e h3), fun b u e nt e' => ?_⟩
      · by_cases hb : b = a
        · subst hb; rw [upd_same] at e ⊢; exact e
        · rw [upd_ne hb] at e ⊢; exact g.sh b u e
      · rw [upd_ne (ne_of_none e h3)]; exact g.fr b u e nt e'
    refine k _ _ _ gg ⟨_, _, (by rw [List.length_map, ← tT_len ks]; exact walk_keysT), fun L1 L s1 s2 => s2 _ _ (s1 _ _ upd_same), fun i L1 L x L' d hd s1 s2 y => ?_⟩
    obtain ⟨rfl, k, v, q, e1, e2, e3⟩ := y
    exact key_turn hd e1 e2 s2 e3⟩
end
end DL

/-! Rows of regions. -/
namespace DL
theorem segVal_cons {α : Type} {e : α} {s : Seg α} {t : List (Seg α)} {y : Int} : segVal e (s :: t) y = if s.1 ≤ y ∧ y < s.2.1 then s.2.2 else segVal e t y := rfl
abbrev Row := Seg (List Int)
structure ROk (R : List Row) : Prop where
  can : Can [] R
  ed : ∀ p ∈ R, EOk p.2.2
def rowAt (R : List Row) (y : Int) : List Int := segVal [] R y
def inR (R : List Row) (x y : Int) : Bool := inE (rowAt R y) x
theorem segVal_mem {α : Type} {e : α} : ∀ {l : List (Seg α)} {y : Int}, segVal e l y = e ∨ ∃ p ∈ l, p.1 ≤ y ∧ y < p.2.1 ∧ p.2.2 = segVal e l y
  | [], y => .inl rfl
  | s :: t, y => by
    unfold segVal
    by_cases h : s.1 ≤ y ∧ y < s.2.1
    · rw [if_pos h]; exact .inr ⟨s, List.mem_cons_self, h.1, h.2, rfl⟩
    · rw [if_neg h]
      rcases segVal_mem (e := e) (l := t) (y := y) with h | ⟨p, h1, h2⟩
      · exact .inl h
      · exact .inr ⟨p, List.mem_cons_of_mem _ h1, h2⟩
theorem ROk.row {R : List Row} (h : ROk R) (y : Int) : EOk (rowAt R y) := by
  rcases segVal_mem (e := ([] : List Int)) (l := R) (y := y) with e | ⟨p, h1, _, _, e⟩
  · unfold rowAt; rw [e]; exact eok_nil
  · unfold rowAt; rw [← e]; exact h.ed p h1
theorem rok_uniq {R S : List Row} (h : ROk R) (k : ROk S) (e : ∀ x y, inR R x y = inR S x y) : R = S :=
  can_uniq h.can k.can fun y => inE_uniq (h.row y).asc (k.row y).asc fun x => e x y
theorem rok_nil : ROk [] := ⟨.nil, by simp⟩
theorem rok_box {x0 y0 x1 y1 : Int} (hx : x0 < x1) (hy : y0 < y1) : ROk [(y0, y1, [x0, x1])] := ⟨.one ⟨hy, by simp⟩, fun p hp => by simp at hp; subst hp; exact eok_two hx⟩
theorem inR_box {x0 y0 x1 y1 x y : Int} (hx : x0 < x1) : inR [(y0, y1, [x0, x1])] x y = decide ((x0 ≤ x ∧ x < x1) ∧ y0 ≤ y ∧ y < y1) := by
  unfold inR rowAt segVal
  by_cases h : y0 ≤ y ∧ y < y1
  · simp only [if_pos h]
    rw [inE_two _ _ _ hx]
    exact decide_eq_decide.mpr ⟨fun q => ⟨q, h⟩, fun q => q.1⟩
  · simp only [if_neg h]
    rw [decide_eq_false (fun q => h q.2)]; rfl
/-! numbers in order, each once -/
def insU (x : Int) : List Int → List Int
  | [] => [x]
  | c :: t => if x < c then x :: c :: t else if x = c then c :: t else c :: insU x t
def srtU (l : List Int) : List Int := l.foldr insU []
theorem mem_insU {x y : Int} : ∀ {l : List Int}, y ∈ insU x l ↔ y = x ∨ y ∈ l
  | [] => by simp [insU]
  | c :: t => by
    unfold insU
    split
    · simp
    · split
      · rename_i h; subst h; simp
      · simp [mem_insU (l := t)]
        constructor
        · rintro (h | h | h) <;> simp [h]
        · rintro (h | h | h) <;> simp [h]
theorem asc_insU {x : Int} : ∀ {l : List Int}, Asc l → Asc (insU x l)
  | [], _ => by simp [insU]
  | c :: t, h => by
    have hp := List.pairwise_cons.mp h
    unfold insU
    split
    · rename_i q
      refine List.pairwise_cons.mpr ⟨fun d hd => ?_, h⟩
      rcases List.mem_cons.mp hd with rfl | hd
      · exact q
      · have := hp.1 d hd; omega
    · split
      · exact h
      · refine List.pairwise_cons.mpr ⟨fun d hd => ?_, asc_insU hp.2⟩
        rcases mem_insU.mp hd with rfl | hd
        · omega
        · exact hp.1 d hd
theorem mem_srtU {y : Int} {l : List Int} : y ∈ srtU l ↔ y ∈ l := by
  induction l with
  | nil => simp [srtU]
  | cons c t ih =>
    show y ∈ insU c (srtU t) ↔ _
    rw [mem_insU, ih, List.mem_cons]
theorem asc_srtU (l : List Int) : Asc (srtU l) := by
  induction l with
  | nil => exact List.Pairwise.nil
  | cons c t ih => exact asc_insU ih
theorem asc_ext : ∀ {l m : List Int}, Asc l → Asc m → (∀ y, y ∈ l ↔ y ∈ m) → l = m
  | [], [], _, _, _ => rfl
  | [], c :: t, _, _, h => absurd ((h c).mpr (by simp)) (by simp)
  | c :: t, [], _, _, h => absurd ((h c).mp (by simp)) (by simp)
  | c :: t, c' :: t', h, h', e => by
    have hp := List.pairwise_cons.mp h
    have hp' := List.pairwise_cons.mp h'
    have e1 : c = c' := by
      have a1 := (e c).mp (by simp)
      have a2 := (e c').mpr (by simp)
      rcases List.mem_cons.mp a1 with q | q
      · exact q
      · rcases List.mem_cons.mp a2 with q' | q'
        · exact q'.symm
        · have := hp.1 _ q'; have := hp'.1 _ q; omega
    subst e1
    rw [asc_ext hp.2 hp'.2 fun y => ?_]
    constructor
    · intro hy
      rcases List.mem_cons.mp ((e y).mp (by simp [hy])) with q | q
      · subst q; have := hp.1 _ hy; omega
      · exact q
    · intro hy
      rcases List.mem_cons.mp ((e y).mpr (by simp [hy])) with q | q
      · subst q; have := hp'.1 _ hy; omega
      · exact q
/-- a line of two -/
def ceAll (w : Wt) (f s : List Int) : List Int := if s = [] then (if w true false = true then f else []) else if f = [] then (if w false true = true then s else []) else (ceLoop f s w (srtU (f ++ s))).2.2
theorem ceAll_spec {w : Wt} {f s : List Int} (hf : EOk f) (hs : EOk s) (hw : w false false = false) : EOk (ceAll w f s) ∧ ∀ x, inE (ceAll w f s) x = w (inE f x) (inE s x) := by
  unfold ceAll
  by_cases h1 : s = []
  · subst h1
    rw [if_pos rfl]
    by_cases h2 : w true false = true
    · rw [if_pos h2]
      refine ⟨hf, fun x => ?_⟩
      cases q : inE f x
      · exact hw.symm
      · exact h2.symm
    · rw [if_neg h2]
      refine ⟨eok_nil, fun x => ?_⟩
      have h2' : w true false = false := by simpa using h2
      cases q : inE f x
      · exact hw.symm
      · exact h2'.symm
  · rw [if_neg h1]
    by_cases h3 : f = []
    · subst h3
      rw [if_pos rfl]
      by_cases h2 : w false true = true
      · rw [if_pos h2]
        refine ⟨hs, fun x => ?_⟩
        cases q : inE s x
        · exact hw.symm
        · exact h2.symm
      · rw [if_neg h2]
        refine ⟨eok_nil, fun x => ?_⟩
        have h2' : w false true = false := by simpa using h2
        cases q : inE s x
        · exact hw.symm
        · exact h2'.symm
    · rw [if_neg h3]
      obtain ⟨a, _, c⟩ := ce_spec (w := w) hf hs (asc_srtU (f ++ s)) (fun c hc => mem_srtU.mpr (by simp [hc])) (fun c hc => mem_srtU.mpr (by simp [hc])) hw
      exact ⟨a, c⟩
theorem ceAll_nil {w : Wt} : ceAll w [] [] = [] := by
  unfold ceAll
  rw [if_pos rfl]; split <;> rfl
/-- the lines between the cuts -/
def bands (g : Int → List Int) : List Int → List Row
  | a :: b :: t => (a, b, g a) :: bands g (b :: t)
  | _ => []
theorem bands_lo {g : Int → List Int} : ∀ {cs : List Int}, Asc cs → ∀ p ∈ bands g cs, p.1 ∈ cs ∧ p.2.1 ∈ cs ∧ p.1 < p.2.1 ∧ p.2.2 = g p.1 ∧ ∀ c, cs.head? = some c → c ≤ p.1
  | [], _, p, hp => by simp [bands] at hp
  | [a], _, p, hp => by simp [bands] at hp
  | a :: b :: t, h, p, hp => by
    have hh := List.pairwise_cons.mp h
    have hab := hh.1 b (by simp)
    rcases List.mem_cons.mp hp with rfl | hp
    · exact ⟨by simp, by simp, hab, rfl, fun c hc => by simp at hc; subst hc; exact Int.le_refl _⟩
    · obtain ⟨h1, h2, h3, h4, h5⟩ := bands_lo hh.2 p hp
      exact ⟨by simp [h1], by simp [h2], h3, h4, fun c hc => by
        simp at hc; subst hc
        have := h5 b rfl
        omega⟩
theorem bands_chain {g : Int → List Int} : ∀ {cs : List Int}, Asc cs → Chain (bands g cs)
  | [], _ => ⟨List.Pairwise.nil, by simp [bands]⟩
  | [a], _ => ⟨List.Pairwise.nil, by simp [bands]⟩
  | a :: b :: t, h => by
    have hh := List.pairwise_cons.mp h
    have ih := bands_chain (g := g) hh.2
    refine ⟨List.pairwise_cons.mpr ⟨fun p hp => (bands_lo hh.2 p hp).2.2.2.2 b rfl, ih.1⟩, fun s hs => ?_⟩
    rcases List.mem_cons.mp hs with rfl | hs
    · exact hh.1 b (by simp)
    · exact ih.2 s hs
theorem bands_val {g : Int → List Int} : ∀ {cs : List Int}, Asc cs → (∀ a y, a ∈ cs → a ≤ y → (∀ c ∈ cs, c ≤ a ∨ y < c) → g y = g a) → (∀ y, (∀ c ∈ cs, c ≤ y) → g y = []) → ∀ y, (∀ a, cs.head? = some a → a ≤ y) → segVal [] (bands g cs) y = g y
  | [], _, _, h2, y, _ => (h2 y (by simp)).symm
  | [a], _, _, h2, y, h3 => (h2 y fun c hc => by simp at hc; subst hc; exact h3 _ rfl).symm
  | a :: b :: t, h, h1, h2, y, h3 => by
    have hh := List.pairwise_cons.mp h
    have hab := hh.1 b (by simp)
    have hay := h3 a rfl
    unfold bands
    rw [segVal_cons]
    by_cases q : y < b
    · rw [if_pos ⟨hay, q⟩]
      refine (h1 a y (by simp) hay fun c hc => ?_).symm
      rcases List.mem_cons.mp hc with rfl | hc
      · exact .inl (Int.le_refl _)
      · rcases List.mem_cons.mp hc with rfl | hc'
        · exact .inr q
        · have := (List.pairwise_cons.mp hh.2).1 c hc'; exact .inr (by omega)
    · rw [if_neg (fun z => q z.2)]
      refine bands_val hh.2 (fun a' y' ha' hay' hc => h1 a' y' (by simp [ha']) hay' fun c hc' => ?_) (fun y' hy' => h2 y' fun c hc => ?_) y fun a' ha' => by simp at ha'; omega
      · rcases List.mem_cons.mp hc' with rfl | hc''
        · have := hh.1 a' ha'; exact .inl (by omega)
        · exact hc c hc''
      · rcases List.mem_cons.mp hc with rfl | hc'
        · have := hy' b (by simp); omega
        · exact hy' c hc'
theorem segVal_const {α : Type} {e : α} : ∀ {l : List (Seg α)} {a y : Int}, a ≤ y → (∀ p ∈ l, (p.1 ≤ a ∨ y < p.1) ∧ (p.2.1 ≤ a ∨ y < p.2.1)) → segVal e l y = segVal e l a
  | [], _, _, _, _ => rfl
  | s :: t, a, y, h, hp => by
    have h1 := hp s List.mem_cons_self
    unfold segVal
    rw [segVal_const (l := t) h fun p hp' => hp p (List.mem_cons_of_mem _ hp')]
    by_cases q : s.1 ≤ a ∧ a < s.2.1
    · rw [if_pos q, if_pos (by omega)]
    · rw [if_neg q, if_neg (by omega)]
def ysOf (R : List Row) : List Int := R.map (·.1) ++ R.map (·.2.1)
/-- the rows of two -/
def combG (w : Wt) (R S : List Row) (y : Int) : List Int := ceAll w (rowAt R y) (rowAt S y)
def combC (R S : List Row) : List Int := srtU ((R ++ S).map (·.1) ++ (R ++ S).map (·.2.1))
def combR (w : Wt) (R S : List Row) : List Row := stackS [] (bands (combG w R S) (combC R S))
theorem comb_val (w : Wt) (R S : List Row) (y : Int) : segVal [] (bands (combG w R S) (combC R S)) y = combG w R S y := by
  have hR : ∀ p ∈ R, p.1 ∈ combC R S ∧ p.2.1 ∈ combC R S := fun p hp => ⟨mem_srtU.mpr (List.mem_append.mpr (.inl (List.mem_map.mpr ⟨p, by simp [hp], rfl⟩))), mem_srtU.mpr (List.mem_append.mpr (.inr (List.mem_map.mpr ⟨p, by simp [hp], rfl⟩)))⟩
  have hS : ∀ p ∈ S, p.1 ∈ combC R S ∧ p.2.1 ∈ combC R S := fun p hp => ⟨mem_srtU.mpr (List.mem_append.mpr (.inl (List.mem_map.mpr ⟨p, by simp [hp], rfl⟩))), mem_srtU.mpr (List.mem_append.mpr (.inr (List.mem_map.mpr ⟨p, by simp [hp], rfl⟩)))⟩
  have asc : Asc (combC R S) := asc_srtU _
  by_cases hy : ∀ a, (combC R S).head? = some a → a ≤ y
  · refine bands_val asc (fun a y ha hay hc => ?_) (fun y hy => ?_) y hy
    · unfold combG rowAt
      rw [segVal_const (l := R) hay fun p hp => ⟨hc _ (hR p hp).1, hc _ (hR p hp).2⟩, segVal_const (l := S) hay fun p hp => ⟨hc _ (hS p hp).1, hc _ (hS p hp).2⟩]
    · unfold combG rowAt
      rw [segVal_over (l := R) fun p hp => hy _ (hR p hp).2, segVal_over (l := S) fun p hp => hy _ (hS p hp).2]
      exact ceAll_nil
  · have hlow : ∀ c ∈ combC R S, y < c := by
      cases q : combC R S with
      | nil => simp
      | cons a t =>
        rw [q] at hy asc
        intro c hc
        have h1 : ¬ a ≤ y := fun z => hy fun b hb => by simp at hb; omega
        rcases List.mem_cons.mp hc with rfl | hc
        · omega
        · have := (List.pairwise_cons.mp asc).1 c hc; omega
    rw [segVal_below fun p hp => hlow _ (bands_lo asc p hp).1]
    unfold combG rowAt
    rw [segVal_below (l := R) fun p hp => hlow _ (hR p hp).1, segVal_below (l := S) fun p hp => hlow _ (hS p hp).1]
    exact ceAll_nil.symm
theorem comb_spec {w : Wt} {R S : List Row} (hR : ROk R) (hS : ROk S) (hw : w false false = false) : ROk (combR w R S) ∧ ∀ x y, inR (combR w R S) x y = w (inR R x y) (inR S x y) := by
  have asc : Asc (combC R S) := asc_srtU _
  obtain ⟨h1, h2, h3⟩ := stack_spec (e := ([] : List Int)) (bands_chain (g := combG w R S) asc)
  refine ⟨⟨h1, fun p hp => ?_⟩, fun x y => ?_⟩
  · obtain ⟨q, hq, e⟩ := h2 p hp
    rw [← e, (bands_lo asc q hq).2.2.2.1]
    exact (ceAll_spec (hR.row _) (hS.row _) hw).1
  · unfold inR
    show inE (segVal [] (combR w R S) y) x = _
    rw [combR, h3, comb_val]
    exact (ceAll_spec (hR.row y) (hS.row y) hw).2 x
/-- what stands at a pointer is the row at a line -/
theorem row_ptr {R : List Row} {y : Int} {i : Nat} (h1 : ∀ k p, k < i → R[k]? = some p → p.2.1 ≤ y) (h2 : ∀ p, R[i]? = some p → y < p.2.1) (hc : R.Pairwise (fun s s' => s.2.1 ≤ s'.1)) :
    rowAt R y = match R[i]? with | some p => if p.1 ≤ y then p.2.2 else [] | none => [] := by
  induction i generalizing R with
  | zero =>
    cases R with
    | nil => rfl
    | cons s t =>
      have h3 := h2 s rfl
      have hp := List.pairwise_cons.mp hc
      simp only [rowAt, segVal, List.getElem?_cons_zero]
      by_cases q : s.1 ≤ y
      · rw [if_pos ⟨q, h3⟩, if_pos q]
      · rw [if_neg (by omega), if_neg q]
        exact segVal_below fun p hp' => by have := hp.1 p hp'; omega
  | succ i ih =>
    cases R with
    | nil => rfl
    | cons s t =>
      have h3 := h1 0 s (by omega) rfl
      have := ih (R := t) (fun k p hk e => h1 (k + 1) p (by omega) (by simpa using e)) (fun p e => h2 p (by simpa using e)) (List.pairwise_cons.mp hc).2
      simp only [rowAt, segVal, List.getElem?_cons_succ]
      rw [if_neg (by omega)]
      exact this
theorem Can.chain {α : Type} [DecidableEq α] {e : α} : ∀ {l : List (Seg α)}, Can e l → l.Pairwise (fun s s' => s.2.1 ≤ s'.1)
  | [], _ => List.Pairwise.nil
  | s :: t, h => List.pairwise_cons.mpr ⟨h.above, h.tail.chain⟩
/-! boxes -/
def pairs : List Int → List (Int × Int)
  | a :: b :: t => (a, b) :: pairs t
  | _ => []
def boxesOf (R : List Row) : List Bx := R.flatMap fun p => (pairs p.2.2).map fun q => ⟨q.1, p.1, q.2, p.2.1⟩
def Bx.has (b : Bx) (x y : Int) : Bool := decide ((b.a ≤ x ∧ x < b.c) ∧ b.b ≤ y ∧ y < b.d)
theorem pairs_in : ∀ {es : List Int} (x : Int), Asc es → es.length % 2 = 0 → inE es x = (pairs es).any fun q => decide (q.1 ≤ x ∧ x < q.2)
  | [], x, _, _ => rfl
  | [a], x, _, h => by simp at h
  | a :: b :: t, x, h, hl => by
    have hp := List.pairwise_cons.mp h
    have hp2 := List.pairwise_cons.mp hp.2
    have hab := hp.1 b (by simp)
    have ih := pairs_in (es := t) x hp2.2 (by simp at hl; omega)
    simp only [inE, pairs, List.any_cons]
    rw [← ih]
    by_cases q1 : a ≤ x <;> by_cases q2 : b ≤ x
    · simp [q1, q2, show ¬ x < b by omega]
    · have : inE t x = false := inE_below fun d hd => by have := hp2.1 d hd; omega
      simp [q1, q2, show x < b by omega]
    · omega
    · have : inE t x = false := inE_below fun d hd => by have := hp2.1 d hd; omega
      simp [q1, this]
theorem any_decide {p q : Prop} [Decidable p] [Decidable q] : (decide p && decide q) = decide (p ∧ q) := by
  by_cases h1 : p <;> by_cases h2 : q <;> simp [h1, h2]
theorem inR_boxes {R : List Row} (h : ROk R) (x y : Int) : inR R x y = (boxesOf R).any fun b => b.has x y := by
  obtain ⟨hc, he⟩ := h
  unfold inR rowAt boxesOf
  induction R with
  | nil => rfl
  | cons p R ih =>
    have ih := ih hc.tail fun q hq => he q (List.mem_cons_of_mem _ hq)
    have hp := he p List.mem_cons_self
    rw [List.flatMap_cons, List.any_append, ← ih]
    have e1 : (((pairs p.2.2).map fun q => (⟨q.1, p.1, q.2, p.2.1⟩ : Bx)).any fun b => b.has x y) = (decide (p.1 ≤ y ∧ y < p.2.1) && inE p.2.2 x) := by
      rw [pairs_in x hp.asc hp.even]
      generalize pairs p.2.2 = l
      induction l with
      | nil => simp
      | cons q l ih =>
        rw [List.map_cons, List.any_cons, ih, List.any_cons, Bool.and_or_distrib_left]
        congr 1
        unfold Bx.has
        rw [any_decide]
        exact decide_eq_decide.mpr And.comm
    rw [e1]
    rw [segVal_cons]
    by_cases q : p.1 ≤ y ∧ y < p.2.1
    · rw [if_pos q, decide_eq_true q, segVal_below fun r hr => by have := hc.above r hr; omega]
      simp [inE]
    · rw [if_neg q, decide_eq_false q]; rfl
theorem boxes_ok {R : List Row} (h : ROk R) : ∀ b ∈ boxesOf R, b.a < b.c ∧ b.b < b.d := by
  intro b hb
  obtain ⟨p, hp, hb⟩ := List.mem_flatMap.mp hb
  obtain ⟨q, hq, rfl⟩ := List.mem_map.mp hb
  have h1 := (h.can.ok p hp).1
  have h2 := h.ed p hp
  have key : ∀ {es : List Int}, Asc es → ∀ q ∈ pairs es, q.1 < q.2 := by
    intro es
    induction es using pairs.induct with
    | case1 a b t ih =>
      intro ha q hq
      have hp := List.pairwise_cons.mp ha
      rcases List.mem_cons.mp hq with rfl | hq
      · exact hp.1 b (by simp)
      · exact ih (List.pairwise_cons.mp hp.2).2 q hq
    | case2 es h => intro _ q hq; unfold pairs at hq; split at hq <;> simp at hq; exact absurd rfl (h _ _ _)
  exact ⟨key h2.asc q hq, h1⟩
end DL

/-! Regions written from squares; lists by their last item. -/
namespace DL
open PySem PySem.Spec L2
def lastP (l : List (Int × Int)) : Int × Int := l.getLast?.getD (0, 0)
def lastR (l : List Row) : Row := l.getLast?.getD (0, 0, [])
theorem atI_last {α : Type} {xs : List α} {d : α} (h : xs.getLast? = some d) : atI xs (-1) = some d := by
  have hne : xs ≠ [] := by rintro rfl; simp at h
  have hl : 0 < xs.length := List.length_pos_iff.mpr hne
  unfold atI ixN
  rw [if_neg (by omega), if_pos (by omega)]
  show xs[((-1 : Int) + (xs.length : Int)).toNat]? = some d
  rw [List.getLast?_eq_getElem?] at h
  rw [← h]
  congr 1
  omega
theorem ixN_last {n : Nat} (h : 0 < n) : ixN n (-1) = some (n - 1) := by
  unfold ixN
  rw [if_neg (by omega), if_pos (by omega)]
  congr 1
  omega
theorem last_map {α β : Type} (f : α → β) (d : α) {l : List α} (h : 0 < l.length) : (l.map f).getLast? = some (f (l.getLast?.getD d)) := by
  rw [List.getLast?_map]
  cases q : l.getLast? with
  | none => rw [List.getLast?_eq_none_iff] at q; subst q; simp at h
  | some x => rfl
theorem len_pos_of {n : Nat} (h : decide ((0 : Int) < (n : Int)) = true) : 0 < n := by have := of_decide_eq_true h; omega
theorem ix_lastQ {l : List (Int × Int)} (h : decide ((0 : Int) < ((l.map dq).length : Int)) = true) : atI (l.map dq) (-1) = some (dq (lastP l)) :=
  atI_last (last_map dq (0, 0) (by have := len_pos_of h; simpa using this))
def rowD (p : Row) : D := .tup [.int p.1, .int p.2.1, .lst ((pairs p.2.2).map dq)]
theorem ix_lastR {l : List Row} {f : Row → D} (h : decide ((0 : Int) < ((l.map f).length : Int)) = true) : atI (l.map f) (-1) = some (f (lastR l)) :=
  atI_last (last_map f (0, 0, []) (by have := len_pos_of h; simpa using this))
theorem last_split {α : Type} (d : α) {l : List α} (h : 0 < l.length) : l = l.dropLast ++ [l.getLast?.getD d] := by
  have hne : l ≠ [] := List.length_pos_iff.mp h
  rw [List.getLast?_eq_some_getLast hne]
  exact (List.dropLast_concat_getLast hne).symm
theorem set_last {α : Type} {l : List α} {x : α} (h : 0 < l.length) : l.set (l.length - 1) x = l.dropLast ++ [x] := by
  have hne : l ≠ [] := List.length_pos_iff.mp h
  have e := List.dropLast_concat_getLast hne
  generalize l.getLast hne = z at e
  generalize l.dropLast = k at e
  subst e
  simp
/-- the last row goes on, or a new one is put behind -/
theorem pushS_eq (l : List Row) (s : Row) : pushS [] l s = if 0 < l.length ∧ (lastR l).2.1 = s.1 ∧ (lastR l).2.2 = s.2.2 then l.set (l.length - 1) ((lastR l).1, s.2.1, s.2.2) else if s.2.2 = [] then l else l ++ [s] := by
  unfold pushS lastR
  cases q : l.getLast? with
  | none =>
    rw [List.getLast?_eq_none_iff] at q; subst q
    simp
  | some p =>
    have hl : 0 < l.length := by
      cases l with
      | nil => simp at q
      | cons _ _ => simp
    simp only [Option.getD_some]
    by_cases c : p.2.1 = s.1 ∧ p.2.2 = s.2.2
    · rw [if_pos c, if_pos ⟨hl, c⟩, set_last hl]
    · rw [if_neg c, if_neg (show ¬ (0 < l.length ∧ p.2.1 = s.1 ∧ p.2.2 = s.2.2) from fun z => c z.2)]
/-! runs and edges -/
theorem pairs_app : ∀ {es : List Int} (m : List Int), es.length % 2 = 0 → pairs (es ++ m) = pairs es ++ pairs m
  | [], m, _ => rfl
  | [a], m, h => by simp at h
  | a :: b :: t, m, h => by
    show (a, b) :: pairs (t ++ m) = (a, b) :: (pairs t ++ pairs m)
    rw [pairs_app m (by simp at h; omega)]
theorem pairs_len : ∀ {es : List Int}, es.length % 2 = 0 → 2 * (pairs es).length = es.length
  | [], _ => rfl
  | [a], h => by simp at h
  | a :: b :: t, h => by
    have := pairs_len (es := t) (by simp at h; omega)
    simp only [pairs, List.length_cons]
    omega
theorem pairs_inj : ∀ {es fs : List Int}, es.length % 2 = 0 → fs.length % 2 = 0 → pairs es = pairs fs → es = fs
  | [], [], _, _, _ => rfl
  | [], a :: b :: t, _, _, h => by simp [pairs] at h
  | a :: b :: t, [], _, _, h => by simp [pairs] at h
  | [a], _, h, _, _ => by simp at h
  | _, [a], _, h, _ => by simp at h
  | a :: b :: t, a' :: b' :: t', h, h', e => by
    simp only [pairs, List.cons.injEq, Prod.mk.injEq] at e
    rw [e.1.1, e.1.2, pairs_inj (by simp at h; omega) (by simp at h'; omega) e.2]
theorem pairs_addE {es : List Int} {x : Int} (h : es.length % 2 = 0) : pairs (addE es x) = if 0 < (pairs es).length ∧ (lastP (pairs es)).2 = x then (pairs es).set ((pairs es).length - 1) ((lastP (pairs es)).1, x + 1) else pairs es ++ [(x, x + 1)] := by
  by_cases h0 : es = []
  · subst h0
    simp [addE, pairs]
  · have hl := pairs_len h
    have hpos : 0 < (pairs es).length := by
      have : 0 < es.length := List.length_pos_iff.mpr h0
      omega
    -- es = f ++ [a, b]
    obtain ⟨f, a, b, rfl⟩ : ∃ f a b, es = f ++ [a, b] := by
      have e1 := List.dropLast_concat_getLast h0
      have hn : es.dropLast ≠ [] := by
        intro z
        rw [z] at e1
        rw [← e1] at h
        simp at h
      have e2 := List.dropLast_concat_getLast hn
      refine ⟨es.dropLast.dropLast, es.dropLast.getLast hn, es.getLast h0, ?_⟩
      have e3 : es.dropLast.dropLast ++ [es.dropLast.getLast hn, es.getLast h0] = (es.dropLast.dropLast ++ [es.dropLast.getLast hn]) ++ [es.getLast h0] := by simp
      rw [e3, e2, e1]
    have hf : f.length % 2 = 0 := by simp at h; omega
    have ep : pairs (f ++ [a, b]) = pairs f ++ [(a, b)] := by rw [pairs_app _ hf]; rfl
    have el : lastP (pairs (f ++ [a, b])) = (a, b) := by rw [ep]; unfold lastP; simp
    rw [el]
    unfold addE
    by_cases q : b = x
    · subst q
      rw [if_pos (by simp), if_pos ⟨hpos, rfl⟩, ep]
      have : (f ++ [a, b]).dropLast = f ++ [a] := by
        rw [show f ++ [a, b] = (f ++ [a]) ++ [b] by simp, List.dropLast_concat]
      rw [this, show f ++ [a] ++ [b + 1] = f ++ [a, b + 1] by simp, pairs_app _ hf]
      simp [pairs]
    · rw [if_neg (by simp; exact q), if_neg (fun z => q z.2), pairs_app _ (by simp; omega)]
      rfl
/-! squares in order, line by line -/
def LtQ (a b : Sq) : Prop := a.1 < b.1 ∨ (a.1 = b.1 ∧ a.2 < b.2)
theorem srtQ_lt {ks : List Sq} (h : ks.Nodup) : (srtQ ks).Pairwise LtQ := by
  have h1 := srtQ_srt ks
  have h2 : (srtQ ks).Nodup := (srtQ_perm ks).nodup_iff.mpr h
  exact (h1.and h2).imp fun {a b} ⟨q, n⟩ => by
    unfold LeQ at q
    unfold LtQ
    by_cases e : a.2 = b.2
    · rcases q with q | q
      · exact .inl q
      · exact absurd (Prod.ext q.1 e) n
    · omega
def xsAt (qs : List Sq) (y : Int) : List Int := (qs.filter fun q => decide (q.2 = y)).map (·.1)
def edL (qs : List Sq) (i : Nat) (y : Int) : List Int := (xsAt (qs.take i) y).foldl addE []
theorem edL_succ {qs : List Sq} {i : Nat} {q : Sq} (h : qs[i]? = some q) (y : Int) : edL qs (i + 1) y = if q.2 = y then addE (edL qs i y) q.1 else edL qs i y := by
  unfold edL xsAt
  rw [List.take_add_one, h, List.filter_append, List.map_append, List.foldl_append]
  by_cases c : q.2 = y
  · rw [if_pos c]; simp [c]
  · rw [if_neg c]; simp [c]
theorem xsAt_asc {qs : List Sq} (h : qs.Pairwise LtQ) (y : Int) : Asc (xsAt qs y) := by
  unfold xsAt
  refine List.pairwise_map.mpr ?_
  induction qs with
  | nil => exact List.Pairwise.nil
  | cons q qs ih =>
    have hp := List.pairwise_cons.mp h
    by_cases c : q.2 = y
    · rw [List.filter_cons_of_pos (by simpa using c)]
      refine List.pairwise_cons.mpr ⟨fun r hr => ?_, ih hp.2⟩
      have hr' := List.mem_filter.mp hr
      have h2 : r.2 = y := by simpa using hr'.2
      have := hp.1 r hr'.1
      unfold LtQ at this
      omega
    · rw [List.filter_cons_of_neg (by simpa using c)]
      exact ih hp.2
theorem mem_xsAt {qs : List Sq} {x y : Int} : x ∈ xsAt qs y ↔ (x, y) ∈ qs := by
  unfold xsAt
  simp only [List.mem_map, List.mem_filter, decide_eq_true_eq]
  constructor
  · rintro ⟨⟨a, b⟩, ⟨h1, h2⟩, h3⟩
    simp at h2 h3; subst h2 h3; exact h1
  · intro h; exact ⟨(x, y), ⟨h, rfl⟩, rfl⟩
theorem adds_spec : ∀ (xs es : List Int), Asc xs → EOk es → (∀ c ∈ es, ∀ x ∈ xs, c ≤ x) → EOk (xs.foldl addE es) ∧ ∀ z, inE (xs.foldl addE es) z = (decide (z ∈ xs) || inE es z)
  | [], es, _, h, _ => ⟨h, fun z => by simp⟩
  | x :: xs, es, ha, h, hi => by
    have hp := List.pairwise_cons.mp ha
    obtain ⟨h1, h2, h3⟩ := addE_spec h fun c hc => hi c hc x (by simp)
    obtain ⟨g1, g2⟩ := adds_spec xs (addE es x) hp.2 h1 fun c hc z hz => by
      have := h2 c hc; have := hp.1 z hz; omega
    refine ⟨g1, fun z => ?_⟩
    rw [List.foldl_cons, g2, h3]
    by_cases q : z = x
    · simp [q]
    · by_cases q2 : z ∈ xs <;> simp [q, q2]
theorem edL_spec {qs : List Sq} (h : qs.Pairwise LtQ) (i : Nat) (y : Int) : EOk (edL qs i y) ∧ ∀ x, inE (edL qs i y) x = decide ((x, y) ∈ qs.take i) := by
  obtain ⟨h1, h2⟩ := adds_spec (xsAt (qs.take i) y) [] (xsAt_asc (h.sublist (List.take_sublist _ _)) y) eok_nil (by simp)
  refine ⟨h1, fun x => ?_⟩
  unfold edL
  rw [h2]
  simp [mem_xsAt, inE]
/-- the rows of squares -/
def lineR (qs : List Sq) (y : Int) : Row := (y, y + 1, edL qs qs.length y)
def writR (qs : List Sq) (ys : List Int) : List Row := stackS [] (ys.map (lineR qs))
theorem writR_succ {qs : List Sq} {ys : List Int} {i : Nat} {y : Int} (h : ys[i]? = some y) : writR qs (ys.take (i + 1)) = pushS [] (writR qs (ys.take i)) (lineR qs y) := by
  unfold writR stackS
  rw [List.take_add_one, h, List.map_append, List.foldl_append]; rfl
theorem lines_chain {qs : List Sq} : ∀ {ys : List Int}, Asc ys → Chain (ys.map (lineR qs))
  | [], _ => ⟨List.Pairwise.nil, by simp⟩
  | y :: ys, h => by
    have hp := List.pairwise_cons.mp h
    have ih := lines_chain (qs := qs) hp.2
    refine ⟨List.pairwise_cons.mpr ⟨fun p hp' => ?_, ih.1⟩, fun s hs => ?_⟩
    · obtain ⟨z, hz, rfl⟩ := List.mem_map.mp hp'
      have := hp.1 z hz
      show y + 1 ≤ z
      omega
    · rcases List.mem_cons.mp hs with rfl | hs
      · show y < y + 1; omega
      · exact ih.2 s hs
theorem lines_val {qs : List Sq} : ∀ {ys : List Int} (y : Int), segVal [] (ys.map (lineR qs)) y = if y ∈ ys then edL qs qs.length y else []
  | [], y => by simp [segVal]
  | z :: ys, y => by
    rw [List.map_cons, segVal_cons, lines_val]
    by_cases c : y = z
    · subst c
      rw [if_pos (show (lineR qs y).1 ≤ y ∧ y < (lineR qs y).2.1 from ⟨Int.le_refl _, by show y < y + 1; omega⟩), if_pos (by simp)]; rfl
    · rw [if_neg (show ¬ ((lineR qs z).1 ≤ y ∧ y < (lineR qs z).2.1) from fun h => by
        have h1 : z ≤ y := h.1
        have h2 : y < z + 1 := h.2
        omega)]
      simp [c]
theorem writ_ok {qs : List Sq} (h : qs.Pairwise LtQ) {ys : List Int} (ha : Asc ys) (hy : ∀ q ∈ qs, q.2 ∈ ys) : ROk (writR qs ys) ∧ ∀ x y, inR (writR qs ys) x y = decide ((x, y) ∈ qs) := by
  obtain ⟨h1, h2, h3⟩ := stack_spec (e := ([] : List Int)) (lines_chain (qs := qs) ha)
  refine ⟨⟨h1, fun p hp => ?_⟩, fun x y => ?_⟩
  · obtain ⟨q, hq, e⟩ := h2 p hp
    obtain ⟨z, hz, rfl⟩ := List.mem_map.mp hq
    rw [← e]
    exact (edL_spec h _ _).1
  · unfold inR rowAt writR
    rw [h3, lines_val]
    have e := (edL_spec h qs.length y).2 x
    rw [List.take_length] at e
    by_cases c : y ∈ ys
    · rw [if_pos c, e]
    · rw [if_neg c, decide_eq_false]
      · rfl
      · exact fun z => c (hy _ z)
end DL

/-! sorted(set(xs)) of ints. -/
namespace DL
open PySem PySem.Spec PyProof.Rows L2
/-- a set just made -/
abbrev nSet (w : World) : Obj := { cls := .type "set", dict := none, data := .set #[] 0 (.fresh 0 0 (!w.params.followText "set-order")) }
section
variable {P : Program} {w : World} {A : Around} {E : Value → Shared → Prop} {s : Shared}
theorem set_of_list {p : Addr} {its : Array Value} (ks : List Int) {Q : Value → Shared → Prop} (quiet : A.handled = none) (isl : s.heap.IsList p its) (hks : IntsAre its.toList ks) (few : ks.length + 1 < scanBound)
    (fin : ∀ (g : Heap) (tk m : Nat), SetR w g s.heap.objs.size (fun j => decide (j ∈ ks)) m → m ≤ ks.length → (∀ b o, s.heap.get? b = some o → g.get? b = some o) → Q (.ref s.heap.objs.size) { s with heap := g, toks := tk }) : wpAny (model P w) A (call (.type "set") [.ref p]) Q E s := by
  have size : its.size = ks.length := by rw [← IntsAre.length hks, Array.length_toList]
  have f1 := F.called_set.made
  have f2 := F.called_set.sub
  have f3 := F.called_set.notType
  have f4 := F.called_set.canCreate
  have f5 := F.typeCall_set_1 (.ref p)
  obtain ⟨_, _, f6⟩ := F.called_set.mro
  refine wpAny_call (codeAny_of_tree (?_ : wpAny _ _ (callAny (.type "set") _) _ _ _))
  refine wpAny_pure ⟨Code.quiet_builtin _ (by decide +kernel), codeAny_builtin F.entry_type_call ?_⟩
  rw [Around.under_plain (weight_type_call_type "set" [.ref p] []) rfl]
  repeat (any_goals (first | assumption | wp_step))
  refine codeAny_mono (code_set_led1 (.ref p) (E := E) (Q₁ := fun v t => v = .ref s.heap.objs.size ∧ t = { s with heap := s.heap.push (nSet w) }) ⟨rfl, rfl⟩) fun r1 t1 e1 => ?_
  rcases r1 with r1 | r1
  · exact e1
  cases r1 with
  | ret v =>
    obtain ⟨rfl, rfl⟩ := e1
    have at0 : (s.heap.push (nSet w)).get? s.heap.objs.size = some (nSet w) := Heap.get?_push_size _ rfl
    have ty : Shared.TypeIs { s with heap := s.heap.push (nSet w) } (.ref s.heap.objs.size) "set" := ⟨_, at0, rfl⟩
    have f7 := F.called_set.init.lookup
    have f8 := F.called_set.init.bind (.ref s.heap.objs.size)
    repeat (any_goals (first | assumption | wp_step))
    refine codeAny_mono (codeAny_call_builtin (R := wants (fun v t => v = .none ∧ ∃ g tk m, t = { s with heap := g, toks := tk } ∧ SetR w g s.heap.objs.size (fun j => decide (j ∈ ks)) m ∧ m ≤ ks.length ∧ ∀ b o, s.heap.get? b = some o → g.get? b = some o) E) F.called_set.init.plain F.entry_set_init (check_set_init_1 ty ?_)) fun r2 t2 e2 => ?_
    · obtain ⟨⟨c0, d0, dat, sl⟩, ho, hc, n0, hd⟩ := isl
      simp only at hc hd
      subst hc hd
      have there : (s.heap.push (nSet w)).get? p = some { cls := .type "list", dict := d0, data := .seq its n0, slots := sl } := Heap.get?_push_of_some _ ho
      have g1 := F.sub_list_set
      have g2 := F.sub_list_frozenset
      have g3 : (Value.type "list" == Value.type "dict") = false := by decide
      have isl2 : (s.heap.push (nSet w)).IsList p its := ⟨_, there, rfl, n0, rfl⟩
      unfold Builtin.«set.__init__» noKeywords Builtin.Frozenset.updateFrom
      generalize hI : pyIter = IT
      wp_walk
      subst hI
      refine wpAny_pyIter_list isl2 (wpAny_bind (wpAny_runValue ?_))
      have old : p < s.heap.objs.size := Heap.lt_size ho
      have it0 : (s.heap.push (nSet w)).objs.size = s.heap.objs.size + 1 := Heap.size_push ..
      have quiet3 : A.in1.in1.in1.handled = none := by simp [quiet]
      have apart : p ≠ (s.heap.push (nSet w)).objs.size := fun e => Nat.ne_of_lt (Nat.lt_succ_of_lt old) (e.trans it0)
      have outside : s.heap.objs.size ∉ [(s.heap.push (nSet w)).objs.size, p] := by
        intro z
        simp only [List.mem_cons, List.not_mem_nil, or_false] at z
        rcases z with z | z
        · exact Nat.ne_of_lt (Nat.lt_succ_self _) (z.trans it0)
        · exact Nat.ne_of_gt old z
      refine set_update_ints ((Walks.list quiet3 _ p apart its).toS) s.heap.objs.size outside ks size few (fun i v hv => ?_) (its.size - 0) 0 _ (by omega) (Nat.zero_le _) ⟨⟨_, Heap.get?_push_size _ rfl, rfl, rfl⟩, isl2.push _⟩ ⟨0, Nat.le_refl 0, setR_new_at (Heap.get?_push_of_some _ at0)⟩ fun t3 m mv mle fin3 => ?_
      · have hi : i < ks.length := by rw [← size]; exact (Array.getElem?_eq_some_iff.mp hv).1
        obtain ⟨tk, e⟩ := IntsAre.int_at hks i v (by rw [Array.getElem?_toList]; exact hv)
        exact ⟨ks[i], tk, List.getElem?_eq_getElem hi, by rw [e, List.getD_eq_getElem?_getD, List.getElem?_eq_getElem hi]; rfl⟩
      · obtain ⟨g, gs, dr, tk, os⟩ := t3
        obtain rfl : gs = s.gens := mv.gens
        obtain rfl : dr = s.drawn := mv.drawn
        obtain rfl : os = s.os := mv.os
        show wpAny _ _ _ _ _ _
        refine wpAny_pure (?_ : wpAny _ _ (ret Value.none) _ _ _)
        rw [size] at mle
        refine wpAny_pure ⟨rfl, g, tk, m, rfl, fin3, mle, fun b o e => mv.heap b o (fun z => ?_) (Heap.get?_push_of_some _ (Heap.get?_push_of_some _ e))⟩
        have hb := Heap.lt_size e
        simp only [List.mem_cons, List.not_mem_nil, or_false] at z
        rcases z with z | z
        · exact Nat.ne_of_lt hb z
        · exact Nat.ne_of_lt (Nat.lt_succ_of_lt hb) (z.trans it0)
    · rcases r2 with r2 | r2
      · exact e2
      cases r2 with
      | ret v =>
        obtain ⟨rfl, g, tk, m, rfl, h1, h2, h3⟩ := e2
        repeat (any_goals (first | assumption | wp_step))
        exact fin _ _ _ h1 h2 h3
      | _ => exact e2.elim
  | _ => exact e1.elim
end
end DL

/-! sorted(xs, key=f), f a def of the program. -/
namespace DL
open PySem PySem.Spec PyProof.Rows L2
open PySem.W (EachIs AllAlike Sortable KeepsBut SortsAt KeyedOut dataLe dataKind alike)
theorem each_all2 {α β : Type} {R : α → β → Prop} : ∀ {as : List α} {bs : List β}, All2 R as bs → EachIs R as bs
  | _, _, .nil => .nil
  | _, _, .cons h t => .cons h (each_all2 t)
theorem all2_each {α β : Type} {R : α → β → Prop} : ∀ {as : List α} {bs : List β}, EachIs R as bs → All2 R as bs
  | _, _, .nil => .nil
  | _, _, .cons h t => .cons h (all2_each t)
/-- a value that stands for data -/
def VD (K : PySem.W.Frag) (H : Hp) (u : Value) (d : D) : Prop := ∃ v, RelV v u ∧ DR K H d v
theorem vd_of {K : PySem.W.Frag} {H : Hp} : ∀ {ds : List D} {vs : List V} {us : List Value}, DRs K H ds vs → Vals vs us → All2 (VD K H) us ds
  | [], vs, us, h, r => by cases (show vs = [] from h); cases r; exact .nil
  | d :: ds, vs, us, h, r => by
    obtain ⟨v, w, rfl, h1, h2⟩ := h
    cases r with
    | cons r1 r2 => exact .cons ⟨v, r1, h1⟩ (vd_of h2 r2)
theorem vd_to {K : PySem.W.Frag} {H : Hp} : ∀ {ds : List D} {us : List Value}, All2 (VD K H) us ds → ∃ vs, Vals vs us ∧ DRs K H ds vs
  | _, _, .nil => ⟨[], .nil, rfl⟩
  | _, _, .cons ⟨v, r1, h1⟩ t => by
    obtain ⟨vs, r2, h2⟩ := vd_to t
    exact ⟨v :: vs, .cons r1 r2, v, vs, rfl, h1, h2⟩
section
variable {X : Cx} {pins : List (Addr × Obj)} {σ : L2.St} {H : Hp} {s : Shared} {β : Type} {bs : List β} {enc kd : β → D} {R : List D → D → Prop} {k : Nat} {f : Addr}
/-- one key -/
theorem key_run {x : Str} (G : Fn X.prog X.w X.K X.mg X.base x k R) (hf : X.mg x = some (.ref f)) {A : Around} (hA : ∀ (s : Shared) (H : Hp), Env0 X.prog X.w X.K X.mg X.base X.A X.stack s H → Env0 X.prog X.w X.K X.mg X.base A X.stack s H) (hr : Room k A) {H0 : Hp} {d e : D} {u : Value} (I : Inv X pins σ H s) (s0 : Same H0 H) (hu : VD X.K H0 u d) (hR : R [d] e) (E : Value → Shared → Prop) {a b : Addr}
    (fa : FpOk X pins H a) (fb : FpOk X pins H b) {oa ob : Obj} (ea : s.heap.get? a = some oa) (eb : s.heap.get? b = some ob) :
    wpAny (model X.prog X.w) A (call (.ref f) [u]) (fun r s' => ∃ H0' H', Inv X pins σ H' s' ∧ JH H0 H H0' H' ∧ VD X.K H0' r e ∧ s'.heap.get? a = some oa ∧ s'.heap.get? b = some ob ∧ FpOk X pins H' a ∧ FpOk X pins H' b) E s := by
  obtain ⟨f', fd, ps, F, hm, hk, hb⟩ := G.ex
  rw [hf] at hm; cases hm
  obtain ⟨v, r1, h1⟩ := hu
  have sp : spR X.K R [v] H (fun r H' => ∃ H0', JH H0 H H0' H' ∧ DR X.K H0' e r) E0 := ⟨H0, [d], e, s0, ⟨v, [], rfl, h1, rfl⟩, hR, fun r H0' H' g q => ⟨H0', g, q⟩⟩
  have hl : ([u] ++ ([] : List Value)).length = ps.length := by
    have := F.len _ _ _ _ sp
    simpa using this
  have nst : ∀ {z : Addr}, FpOk X pins H z → z ∉ frs X.stack := fun {z} fz hz => by
    rcases List.mem_cons.mp (I.stkSub _ hz) with q | q
    · exact fz.2.1 q
    · exact fz.2.2.1 q
  refine wpAny_call (codeAny_mono (F.run A X.stack s H ⟨[u], []⟩ ([u] ++ []) [v] _ E0 hr (hA s H I.env0) (hb s [u] I.kIn hl) (.cons r1 .nil) sp) fun r s' hq => ?_)
  cases r with
  | error e => exact hq.elim
  | ok fl =>
    cases fl with
    | ret w =>
      obtain ⟨v', H', os, bare, un, hok, rv, H0', g, q⟩ := hq
      have I' : Inv X pins σ H' s' := I.call' (ch := []) os un hok bare (fun b z => absurd z (by simp))
      refine ⟨H0', H', I', g, ⟨v', rv, q⟩, un.keep _ _ ea fa.1 (nst fa) (by simp), un.keep _ _ eb fb.1 (nst fb) (by simp), ⟨un.free _ _ ea fa.1 (by simp), fa.2⟩, ⟨un.free _ _ eb fb.1 (by simp), fb.2⟩⟩
    | next => exact False.elim hq
    | brk => exact False.elim hq
    | cont => exact False.elim hq
noncomputable def srtK (kd : β → D) (bs : List β) : List β := bs.mergeSort (dataLe false fun b => (kd b).py)
theorem srtK_perm (kd : β → D) (bs : List β) : (srtK kd bs).Perm bs := List.mergeSort_perm _ _
/-- keys that can be compared -/
structure KeyOk (A : Around) (kd : β → D) (bs : List β) : Prop where
  plain : ∀ b ∈ bs, (kd b).plain = true
  alike : AllAlike (bs.map fun b => (kd b).py)
  sort : Sortable (bs.map fun b => (kd b).py)
  deep : ∀ b ∈ bs, A.units + 1 + 1 + (kd b).py.depth < cLine
theorem reads_vd (I : Inv X pins σ H s) {H0 : Hp} (s0 : Same H0 H) {u : Value} {d : D} (p : d.plain = true) (h : VD X.K H0 u d) : ∃ as, Reads s.heap u d.py as := by
  obtain ⟨v, r, h⟩ := h
  exact Dp.reads I d.py v u (DR.dp _ _ p (DR.mono s0 _ _ h)) r
theorem all2_take {α β : Type} {r : α → β → Prop} {as : List α} {bs : List β} (h : All2 r as bs) {j : Nat} {a : α} {b : β} (ea : as[j]? = some a) (eb : bs[j]? = some b) : r a b := h.get ea eb
theorem all2_snoc {α β : Type} {r : α → β → Prop} : ∀ {as : List α} {bs : List β} {a : α} {b : β}, All2 r as bs → r a b → All2 r (as ++ [a]) (bs ++ [b])
  | _, _, _, _, .nil, h => .cons h .nil
  | _, _, _, _, .cons h t, g => .cons h (all2_snoc t g)
theorem vd_mono {K : PySem.W.Frag} {H0 H1 : Hp} (e : Same H0 H1) {u : Value} {d : D} (h : VD K H0 u d) : VD K H1 u d := by
  obtain ⟨v, r, h⟩ := h
  exact ⟨v, r, DR.mono e _ _ h⟩
/-- the keys are made, then all is sorted by them -/
theorem sort_rest {x : Str} (G : Fn X.prog X.w X.K X.mg X.base x k R) (hf : X.mg x = some (.ref f)) (hr : Room (k + 2) X.A) (hR : ∀ b ∈ bs, R [enc b] (kd b)) (ok : KeyOk X.A kd bs) {H0 : Hp} {its : List Value} (hv : All2 (fun u b => VD X.K H0 u (enc b)) its bs) {a kS : Addr} {e1 : Nat} (hz : its.length ≤ sizeLine)
    {P : PySem.Fin → Shared → Prop} {E : Value → Shared → Prop} (I : Inv X pins σ H s) (s0 : Same H0 H) (fa : FpOk X pins H a) (fk : FpOk X pins H kS) (hka : kS ≠ a) (ea : s.heap.get? a = some (seqObj "list" #[] e1)) (ek : s.heap.get? kS = some (seqObj "list" #[] 0))
    (fin : ∀ (s' : Shared) H0' H' ys, JH H0 H H0' H' → H' a = none → Inv X pins σ (upd H' a (.lst ys)) s' → DRs X.K H0' ((srtK kd bs).map enc) ys → P (.done (.ret .none)) s') :
    wpAny (model X.prog X.w) X.A.in1.in1 (ksk_rest a (.ref f) false its.toArray e1 (.ref kS)) P E s := by
  have hlen : its.length = bs.length := hv.len
  unfold ksk_rest
  refine wpAny_bind (wpAny_rule ?_)
  rw [List.forIn_toArray]
  refine wpAny_bind (ksk_fold (fun i s' => ∃ H0' H' kA e, Inv X pins σ H' s' ∧ JH H0 H H0' H' ∧ FpOk X pins H' a ∧ FpOk X pins H' kS ∧ s'.heap.get? kS = some (seqObj "list" kA e) ∧ s'.heap.get? a = some (seqObj "list" #[] e1) ∧ All2 (fun u b => VD X.K H0' u (kd b)) kA.toList (bs.take i)) its 0 s
    ⟨H0, H, #[], 0, I, JH.refl s0, fa, fk, ek, ea, by rw [List.take_zero]; exact .nil⟩ ?step ?done)
  case step =>
    rintro j u s1 hu ⟨H1, H2, kA, e, I1, g1, fa1, fk1, ek1, ea1, hk1⟩
    simp only [Nat.zero_add] at hk1 ⊢
    have hj : j < its.length := (List.getElem?_eq_some_iff.mp hu).1
    obtain ⟨b, hb⟩ : ∃ b, bs[j]? = some b := ⟨bs[j]'(by omega), by simp [show j < bs.length by omega]⟩
    have hkl := hk1.len
    rw [Array.length_toList, List.length_take] at hkl
    refine wpAny_bind (wpAny_attempt (wpAny_mono (key_run G hf (A := X.A.in1.in1) (fun _ _ h => h.in1.in1) hr.in1.in1 I1 g1.sh (vd_mono g1.s0 (hv.get hu hb)) (hR b (List.mem_of_getElem? hb)) (fun _ _ => False) fa1 fk1 ea1 ek1) (fun r s2 h2 => ?_) fun _ _ z => z.elim))
    obtain ⟨H3, H4, I2, g2, hr2, ea2, ek2, fa2, fk2⟩ := h2
    refine wpAny_bind (listUpdate_at ek2 rfl ?_ (by omega) (by rw [Array.size_push]; omega))
    obtain ⟨c2, hc2⟩ : ∃ c, (s2.heap.update kS (Obj.mapSeq (·.push r))).get? kS = some (seqObj "list" (kA.push r) c) := ⟨_, get?_update_seq ek2 (·.push r)⟩
    have ne : ∀ c o, c ≠ kS → s2.heap.get? c = some o → (s2.heap.update kS (Obj.mapSeq (·.push r))).get? c = some o := fun c o hc e => by
      rw [Heap.get?_update_ne _ _ _ _ hc]; exact e
    have I3 := I2.turned (t' := s2.toks) (it := kS) ne fk2.1 fk2.2.1 fk2.2.2.2.1 fk2.2.2.2.2.1 fk2.2.2.2.2.2
    refine wpAny_pure ⟨rfl, H3, H4, kA.push r, c2, I3, g1.trans g2, fa2, fk2, hc2, ne _ _ (Ne.symm hka) ea2, ?_⟩
    rw [Array.toList_push, List.take_add_one, hb]
    exact all2_snoc (hk1.imp fun _ _ q => vd_mono g2.s0 q) hr2
  case done =>
    rintro s1 ⟨H1, H2, kA, e, I1, g1, fa1, fk1, ek1, ea1, hk1⟩
    rw [List.take_of_length_le (by omega)] at hk1
    have hsz : kA.size = its.length := by rw [← Array.length_toList, hk1.len, hlen]
    refine wpAny_bind (listItems_at ek1 rfl ?_)
    obtain ⟨G1, r1, r2⟩ := restrict s1.heap fun c => decide (c ≠ kS)
    have gk : ∀ c o, c ≠ kS → s1.heap.get? c = some o → G1.get? c = some o := fun c o hc e => by rw [r1 c (decide_eq_true hc)]; exact e
    have gn : G1.get? kS = none := r2 kS (decide_eq_false fun z => z rfl)
    have gb : ∀ c o, G1.get? c = some o → s1.heap.get? c = some o := fun c o e => by
      by_cases hc : c = kS
      · rw [hc, gn] at e; cases e
      · rw [← r1 c (decide_eq_true hc)]; exact e
    have hreads : EachIs (fun v d => ∃ as, Reads s1.heap v d as) kA.toList (bs.map fun b => (kd b).py) := by
      refine each_all2 ?_
      have : ∀ {us : List Value} {cs : List β}, All2 (fun u b => VD X.K H1 u (kd b)) us cs → (∀ b ∈ cs, b ∈ bs) → All2 (fun v d => ∃ as, Reads s1.heap v d as) us (cs.map fun b => (kd b).py) := by
        intro us cs h
        induction h with
        | nil => intro _; exact .nil
        | cons h t ih => intro m; exact .cons (reads_vd I1 g1.sh (ok.plain _ (m _ (by simp))) h) (ih fun b hb => m b (by simp [hb]))
      exact this hk1 fun b hb => hb
    refine PySem.W.keyH_end (κ := dataKind s1.heap (bs.map fun b => (kd b).py)) (h₁ := G1) (fun c o _ q => gb c o q) gn ek1 ea1 hka (SortsAt.data hreads ok.alike ok.sort fun d hd => ?_) hsz hz fun h' tk c kp ha' => ?_
    · obtain ⟨b, hb, rfl⟩ := List.mem_map.mp hd
      exact ok.deep b hb
    · have hKO : KeyedOut false (bs.map fun b => (kd b).py) its (PySem.W.sortVals (dataKind s1.heap (bs.map fun b => (kd b).py)) false kA.toList its) := ⟨s1.heap, kA.toList, ok.alike, rfl, hreads⟩
      have hout := PySem.W.keyedOut_each (fun b => (kd b).py) hKO (each_all2 hv)
      have hlo := hKO.length (by rw [List.length_map]; exact hlen.symm)
      generalize PySem.W.sortVals (dataKind s1.heap (bs.map fun b => (kd b).py)) false kA.toList its = out at ha' hout hlo
      have hmap : ∀ {us : List Value} {cs : List β}, EachIs (fun u b => VD X.K H0 u (enc b)) us cs → All2 (VD X.K H0) us (cs.map enc) := by
        intro us cs h
        induction h with
        | nil => exact .nil
        | cons h t ih => exact .cons h ih
      obtain ⟨ys, q1, q2⟩ := vd_to (hmap hout)
      obtain ⟨G2, w1, w2⟩ := restrict G1 fun c => decide (c ≠ a)
      have hn2 : G2.get? a = none := w2 a (decide_eq_false fun z => z rfl)
      have I2 := I1.turned (h' := G1) (t' := s1.toks) (it := kS) gk fk1.1 fk1.2.1 fk1.2.2.2.1 fk1.2.2.2.2.1 fk1.2.2.2.2.2
      have I3 := I2.turned (h' := G2) (t' := s1.toks) (it := a) (fun c o hc e => by rw [w1 c (decide_eq_true hc)]; exact e) fa1.1 fa1.2.1 fa1.2.2.2.1 fa1.2.2.2.2.1 fa1.2.2.2.2.2
      have I4 := I3.laidN (h' := h') (t' := tk) (a := a) (o := .lst ys) (fun c o e => by
        by_cases hc : c = a
        · subst hc; rw [hn2] at e; cases e
        · exact kp c o hc (by rw [w1 c (decide_eq_true hc)] at e; exact e)) hn2 fa1.1 (show ObjOk X.prog X.w _ _ _ (.lst ys) from ⟨by rw [q1.length, hlo]; exact hz, out, c, q1, ha'⟩)
      exact fin _ H1 H2 ys g1 fa1.1 I4 (DRs.mono g1.s0 _ _ q2)
theorem call_sortedK {x : Str} (G : Fn X.prog X.w X.K X.mg X.base x k R) (hf : X.mg x = some (.ref f)) (hr : Room (k + 2) X.A) (hR : ∀ b ∈ bs, R [enc b] (kd b)) (ok : KeyOk X.A kd bs) : CallRK X (.builtin "sorted") ["key"] (fun vs zs H Q => ∃ (l : Addr) (xs : List V) (H0 : Hp), vs = [.ref l] ∧ zs = [.ref f] ∧ (SqL X.K H l xs ∨ SqT X.K H l xs) ∧ Same H0 H ∧ DRs X.K H0 (bs.map enc) xs ∧
    ∀ H0' H' p ys, JH H0 H H0' H' → H' p = none → H p = none → DRs X.K H0' ((srtK kd bs).map enc) ys → Q (.ref p) (upd H' p (.lst ys))) := by
  intro pins s σ H vs zs us ws Q I rv rz h
  obtain ⟨l, xs, H0, rfl, rfl, hs, s0, hd, q⟩ := h
  rw [Vals.ref1 rv, Vals.ref1 rz]
  obtain ⟨its, T, o, n, hT, rvs, ho, hc, hdat, hz⟩ : ∃ (its : List Value) (T : String) (o : Obj) (n : Nat), (T = "list" ∨ T = "tuple") ∧ Vals xs its ∧ s.heap.get? l = some o ∧ o.cls = .type T ∧ o.data = .seq its.toArray n ∧ its.length ≤ sizeLine := by
    rcases hs with hs | hs
    · obtain ⟨its, r, ⟨o, n, e1, e2, _, e3⟩, z⟩ := I.list hs
      exact ⟨its, "list", o, n, .inl rfl, r, e1, e2, e3, by rw [← r.length]; exact z⟩
    · obtain ⟨its, r, ⟨o, e1, e2, n, e3⟩, z⟩ := I.tuple hs
      exact ⟨its, "tuple", o, n, .inr rfl, r, e1, e2, e3, by rw [← r.length]; exact z⟩
  have hv : All2 (fun u b => VD X.K H0 u (enc b)) its bs := by
    have h1 := vd_of hd rvs
    clear h1 q
    have : ∀ {us : List Value} {cs : List β} {ws : List V}, DRs X.K H0 (cs.map enc) ws → Vals ws us → All2 (fun u b => VD X.K H0 u (enc b)) us cs := by
      intro us cs
      induction cs generalizing us with
      | nil => intro ws h r; cases (show ws = [] from h); cases r; exact .nil
      | cons c cs ih =>
        intro ws h r
        obtain ⟨v, w, rfl, h1, h2⟩ := h
        cases r with
        | cons r1 r2 => exact .cons ⟨v, r1, h1⟩ (ih h2 r2)
    exact this hd rvs
  refine PyProof.Rows.call_function_entry_kw PyProof.Rows.kind_sorted PyProof.Rows.plain_sorted PyProof.Rows.entry_sorted (PyProof.Rows.ksk_s1 _ _) ?_
  unfold Builtin.«sorted»
  refine wpAny_bind (m := checkCount "sorted" 1 1 _) (wpAny_pure ?_)
  refine wpAny_bind (wpAny_collect_seq l hT ho hc hdat (fun h1 hk1 => ?_) (by rw [List.size_toArray]; exact hz))
  rw [List.toList_toArray]
  refine wpAny_bind (wpAny_newList ?_ hz)
  have I1 : Inv X pins σ H { s with heap := h1 } := I.kept hk1
  have at1 : (h1.push (seqObj "list" its.toArray 0)).get? h1.objs.size = some (seqObj "list" its.toArray 0) := Heap.get?_push_size _ rfl
  refine wpAny_bind (wpAny_holding (PyProof.Rows.wpAny_call_entry_kw PyProof.Rows.slot_list_sort ⟨_, at1, rfl⟩ PyProof.Rows.entry_list_sort ?_ (PyProof.Rows.ksk_l1 _ _)))
  show wpAny (model X.prog X.w) X.A.in1.in1 (Builtin.«list.sort» ⟨[.ref h1.objs.size], [(Str.ofString "key", .ref f)]⟩) _ _ _
  rw [ksk_t1]
  unfold ksk_tree
  refine wpAny_bind (listItems_at at1 rfl ?_)
  refine wpAny_bind (listUpdate_at at1 rfl ?_ (by rw [List.size_toArray]; exact hz) (Nat.zero_le _))
  obtain ⟨e1, at2⟩ : ∃ e1, ((h1.push (seqObj "list" its.toArray 0)).update h1.objs.size (Obj.mapSeq fun _ => (#[] : Array Value))).get? h1.objs.size = some (seqObj "list" #[] e1) := ⟨_, get?_update_seq at1 fun _ => #[]⟩
  refine wpAny_bind (seqEpoch_at at2 rfl ?_)
  refine wpAny_bind (wpAny_newTuple ?_ (by rw [List.toList_toArray]; exact hz))
  refine wpAny_bind (wpAny_newList ?_ (Nat.zero_le _))
  refine wpAny_holding ?_
  obtain ⟨g1, hg1⟩ : ∃ g, g = (h1.push (seqObj "list" its.toArray 0)).update h1.objs.size (Obj.mapSeq fun _ => (#[] : Array Value)) := ⟨_, rfl⟩
  have sz1 : g1.objs.size = h1.objs.size + 1 := by rw [hg1, Heap.size_update, size_push']
  have kg : ∀ b o, h1.get? b = some o → g1.get? b = some o := fun b o e => by
    rw [hg1, Heap.get?_update_ne _ _ _ _ (Nat.ne_of_lt (Heap.lt_size e))]
    exact Heap.get?_push_of_some _ e
  have kg2 : ∀ b o, g1.get? b = some o → ((g1.push (seqObj "tuple" its.toArray 0)).push (seqObj "list" #[] 0)).get? b = some o := fun b o e => Heap.get?_push_of_some _ (Heap.get?_push_of_some _ e)
  have I2 : Inv X pins σ H { s with heap := (g1.push (seqObj "tuple" its.toArray 0)).push (seqObj "list" #[] 0) } := I1.kept (fun b o e => kg2 b o (kg b o e))
  have szk : (g1.push (seqObj "tuple" its.toArray 0)).objs.size = h1.objs.size + 2 := by rw [size_push', sz1]
  have fa : FpOk X pins H h1.objs.size := I1.fpOk (Nat.le_refl _) (I1.hok.fresh (Nat.le_refl _))
  have fk : FpOk X pins H (g1.push (seqObj "tuple" its.toArray 0)).objs.size := I1.fpOk (by rw [szk]; exact Nat.le_add_right _ 2) (I1.hok.fresh (by rw [szk]; exact Nat.le_add_right _ 2))
  have hpn : H h1.objs.size = none := fa.1
  rw [← hg1] at at2
  rw [← hg1]
  show wpAny (model X.prog X.w) X.A.in1.in1 _ _ _ { s with heap := (g1.push (seqObj "tuple" its.toArray 0)).push (seqObj "list" #[] 0) }
  refine sort_rest (kd := kd) (enc := enc) G hf hr hR ok hv hz I2 s0 fa fk (by rw [szk]; exact Nat.ne_of_gt (Nat.lt_succ_of_lt (Nat.lt_succ_self _))) (kg2 _ _ at2) (Heap.get?_push_size _ rfl) fun s' H0' H' ys g hn I' hd' => ?_
  exact ⟨_, rfl, wpAny_pure ⟨_, rfl, .ref h1.objs.size, _, I', rfl, q H0' H' _ ys g hn hpn hd'⟩⟩
variable {ρ : En}
/-- a list or a tuple -/
inductive SeqD : D → List D → Prop where
  | lst (ds) : SeqD (.lst ds) ds
  | tup (ds) : SeqD (.tup ds) ds
theorem id_seq {tg e : Expr} {d : D} {ds : List D} (h : SeqD d ds) (he : ED X ρ e d) : ID X ρ tg e ds := by
  cases h with
  | lst => exact id_list he
  | tup => exact id_tup he
theorem ed_fn {x : Str} {pos : Pos} {f : Addr} (hm : X.mg x = some (.ref f)) (hg : Gl X x) (hd : (x == ("__debug__" : Str)) = false := by decide) : ED X ρ (.Name x pos) (.ad f) := fun B0 B σ H0 H Q j k =>
  RE.of (pe_glob hg hm (v := .ref f) rfl hd) (k _ H0 H (JH.refl j.same) rfl)
/-- sorted(e, key=f) -/
theorem eo_sortedK {x : Str} {e : Expr} {p p1 p2 pos : Pos} {d : D} (G : Fn X.prog X.w X.K X.mg X.base x k R) (hr : Room (k + 2) X.A) (hgx : Gl X x) (hs : Gl X "sorted") (hms : X.mg "sorted" = none) (hd : SeqD d (bs.map enc)) (he : ED X ρ e d) (hR : ∀ b ∈ bs, R [enc b] (kd b)) (ok : KeyOk X.A kd bs) (hdb : (x == ("__debug__" : Str)) = false := by decide)
    (he1 : backTo pos (starEach [e] X.env) = (false, eval e X.env) :: backTo pos (starEach [] X.env) := by rfl) (hpl : (backTo pos (starEach [e] X.env)).any (·.1) = false := by rfl)
    (hall : (backToKw pos (keywordEach [⟨some "key", .Name x p1, p2⟩] X.env)).all (·.1.isSome) = true := by rfl) (hnone : (backToKw pos (keywordEach [⟨some "key", .Name x p1, p2⟩] X.env)).any (·.1.isNone) = false := by rfl) (hks : (backToKw pos (keywordEach [⟨some "key", .Name x p1, p2⟩] X.env)).filterMap (·.1) = ([("key" : Str)] : List Str) := by rfl) (hst : starEach [e] X.env = (false, eval e X.env) :: starEach [] X.env := by rfl) :
    EO X ρ (.Call (.Name "sorted" p) [e] [⟨some "key", .Name x p1, p2⟩] pos) (.lst ((srtK kd bs).map enc)) := fun B0 B σ H0 H Q j kk => by
  obtain ⟨f, _, _, _, hm, _, _⟩ := G.ex
  refine RE.of (pe_callBK (call_sortedK (bs := bs) (enc := enc) (kd := kd) G hm hr hR ok) hs hms bb_sorted pa_star (pk_cons pe_star pk_nil) (by decide) (by decide) he1 hpl hall hnone hks) ?_
  refine ad_cons (X := X) he ad_nil hst B0 B σ H0 H _ j fun vs G0 G1 g r => ed_fn hm hgx hdb B0 B σ G0 G1 _ (j.grow g) fun v L0 L g2 r2 => ?_
  cases (show v = .ref f from r2)
  obtain ⟨w, rfl, r1⟩ := r.one'
  have fin : ∀ H0' H' p ys, JH L0 L H0' H' → H' p = none → L p = none → DRs X.K H0' ((srtK kd bs).map enc) ys → Q (.ref p) (upd H' p (.lst ys)) := fun H0' H' p ys g3 n1 n2 rr => by
    have g4 := ((g.trans g2).trans g3)
    exact kk p _ H0' _ (g4.trans (JH.own g4.sh n1)) upd_same (g4.sh.free n1) ((g.trans g2).sB.free n2) ⟨ys, rfl, rr⟩
  have r1 := DR.mono g2.s0 _ _ r1
  cases hd with
  | lst =>
    obtain ⟨a, ys, rfl, h1, h2⟩ := r1
    exact ⟨a, ys, L0, rfl, rfl, .inl (g2.sh.seq h1), g2.sh, h2, fin⟩
  | tup =>
    obtain ⟨a, ys, rfl, h1, h2⟩ := r1
    exact ⟨a, ys, L0, rfl, rfl, .inr (Same.seqT g2.sh h1), g2.sh, h2, fin⟩
end
end DL

/-! while, op=, a = b = e, range with a step, sorted(set(xs)). -/
namespace DL
open PySem PySem.Spec PyProof.Rows L2
section
variable {X : Cx} {ρ : En} {Φ : Out → Prop} {e a b c : Expr} {pos : Pos} {d : D}
theorem call_setL (hc : X.calm = true) : CallR X (.type "set") (fun vs H Q => ∃ (l : Addr) (ns : List Int), vs = [.ref l] ∧ SqL X.K H l (ns.map V.int) ∧ ns.length + 1 < scanBound ∧ ∀ p m, H p = none → Q (.ref p) (upd H p (SetO X.w p (fun j => decide (j ∈ ns)) m))) := by
  intro pins s σ H vs us Q I r h
  obtain ⟨l, ns, rfl, hs, few, q⟩ := h
  rw [Vals.ref1 r]
  obtain ⟨its, rv, pl, hz⟩ := I.list hs
  refine set_of_list ns (I.ok.hd hc) pl.isList (by simpa using ints_of_vals rv) few fun g tk m hS _ hk => ?_
  exact ⟨.ref _, _, I.laid (t' := tk) hk (Nat.le_refl _) (setO_new hS), rfl, q _ m (I.hok.fresh (Nat.le_refl _))⟩
theorem asc_of {l : List Int} (h : l.Pairwise (· ≤ ·)) (n : l.Nodup) : Asc l := (h.and n).imp fun {a b} ⟨q, z⟩ => by omega
theorem call_sortedS (hc : X.calm = true) : CallR X (.builtin "sorted") (fun vs H Q => ∃ (a : Addr) (S : Int → Bool) (n : Nat), vs = [.ref a] ∧ H a = some (SetO X.w a S n) ∧ ∀ (ns : List Int) p, Asc ns → (∀ k, k ∈ ns ↔ S k = true) → H p = none → Q (.ref p) (upd H p (.lst (ns.map V.int)))) := by
  intro pins s σ H vs us Q I r h
  obtain ⟨a, S, n, rfl, ha, q⟩ := h
  rw [Vals.ref1 r]
  obtain ⟨o, es, ep, t, ho, hex, hd, good, nod, mem, hb, hf, hn, hr, hl⟩ := setO_get I ha
  refine Calls.call_function_entry PyProof.Rows.kind_sorted PyProof.Rows.plain_sorted PyProof.Rows.entry_sorted (PyProof.Rows.args_sorted1 _) ?_
  unfold Builtin.«sorted»
  refine wpAny_bind (m := checkCount "sorted" 1 1 _) (wpAny_pure ?_)
  refine wpAny_bind (collect_set (A := X.A.in1) (I.ok.hd hc) ⟨o, ho, hex.1, hd⟩ hf hb hr hl fun s1 vs k1 hz g1 o1 pm => ?_)
  have hvl : vs.length < 4096 := by
    rw [pm.length_eq, List.length_map, Array.length_toList]
    exact hb
  have hi : IntsAre vs (vs.map SrtO.iv) := SrtO.ints_iv fun v hv => by
    obtain ⟨e, he, q⟩ := List.mem_map.mp (pm.mem_iff.mp hv)
    obtain ⟨k, tk, h1, _⟩ := good e he
    exact ⟨k, tk, by rw [← q]; exact h1⟩
  have pk : (vs.map SrtO.iv).Perm (es.toList.map keyOf) := by
    have e1 := pm.map SrtO.iv
    rw [List.map_map] at e1
    refine e1.trans (List.Perm.of_eq (List.map_congr_left fun e he => ?_))
    obtain ⟨k, tk, h1, _⟩ := good e he
    show SrtO.iv e.2 = keyOf e
    unfold keyOf
    rw [h1]; rfl
  have I1 : Inv X pins σ H s1 := I.call' (ch := []) o1 (Un.kept k1) (I.hok.kept k1) (by rw [g1]; exact I.bare) (fun b z => absurd z (by simp))
  have hz2 : vs.length ≤ sizeLine := by rw [sizeLine_eq]; omega
  refine wpAny_bind (wpAny_newList ?_ hz2)
  have hoL : (s1.heap.push (seqObj "list" vs.toArray 0)).get? s1.heap.objs.size = some (seqObj "list" vs.toArray 0) := Heap.get?_push_size _ rfl
  refine wpAny_bind (wpAny_holding (wpAny_call_entry PyProof.Rows.slot_list_sort ⟨_, hoL, rfl⟩ PyProof.Rows.entry_list_sort
    (SrtO.list_sort_ord SrtO.swo_int hoL hz2 (fun h2 => SrtO.ints_sortable hi h2) fun out a1 a2 => ⟨_, rfl, ?_⟩) (PyProof.Rows.args_list_sort _)))
  obtain ⟨k3, k4, k5⟩ := SrtO.ints_out hi a1 a2
  obtain ⟨ep2, he2⟩ := PyProof.Rows.sortedHeap_at (vs := vs) (out := out.toArray) hoL
  have pn := k4.trans pk
  refine wpAny_pure ⟨_, rfl, .ref s1.heap.objs.size, upd H s1.heap.objs.size (.lst ((out.map SrtO.iv).map V.int)), I1.laid (t' := s1.toks) (fun b u e => ?_) (Nat.le_refl _) ⟨by rw [List.length_map, k4.length_eq, List.length_map]; exact hz2, out, ep2, vals_of_ints k3, he2⟩, rfl, q _ _ (asc_of k5 (pn.nodup_iff.mpr nod)) (fun k => by rw [pn.mem_iff, ← mem k]) (I1.hok.fresh (Nat.le_refl _))⟩
  have hlt := Heap.lt_size e
  rw [PyProof.Rows.sortedHeap_old (Nat.ne_of_lt hlt) (by rw [size_push']; exact Nat.lt_succ_of_lt hlt)]
  exact Heap.get?_push_of_some _ e
/-- sorted(set(e)) -/
theorem eo_srtSet {ns : List Int} {p1 p2 q : Pos} (hc : X.calm = true) (hs : Gl X "sorted") (hms : X.mg "sorted" = none) (ht : Gl X "set") (hmt : X.mg "set" = none) (he : ED X ρ e (.lst (ns.map .int))) (few : ns.length + 1 < 4096)
    (h1 : starEach [e] X.env = (false, eval e X.env) :: starEach [] X.env := by rfl) (h2 : (backTo q (starEach [] X.env)).any (·.1) = false := by rfl)
    (h3 : starEach [.Call (.Name "set" p2) [e] [] q] X.env = (false, eval (.Call (.Name "set" p2) [e] [] q) X.env) :: starEach [] X.env := by rfl) (h4 : (backTo pos (starEach [] X.env)).any (·.1) = false := by rfl) :
    EO X ρ (.Call (.Name "sorted" p1) [.Call (.Name "set" p2) [e] [] q] [] pos) (.lst ((srtU ns).map .int)) := fun B0 B σ H0 H Q j k => by
  refine RE.of (pe_callB (call_sortedS hc) hs hms bb_sorted (pa_cons (pe_callTy (call_setL hc) ht hmt bb_set (pa_cons pe_star pa_nil h1) (by decide) (by decide) h1 h2) pa_nil h3) (by decide) (by decide) h3 h4) ?_
  refine he B0 B σ H0 H _ j fun v G0 G g r => ?_
  obtain ⟨l, vs, rfl, hS, rr⟩ := r
  rw [DRs.ints rr] at hS
  refine ⟨l, ns, rfl, g.sh.seq hS, few, fun p m hp => ?_⟩
  refine ⟨p, _, m, rfl, upd_same, fun ks p2 ha hm hp2 => ?_⟩
  have e1 : ks = srtU ns := asc_ext ha (asc_srtU ns) fun y => by rw [hm, mem_srtU, decide_eq_true_eq]
  subst e1
  have gA := g.trans (JH.own (o := SetO X.w p (fun j => decide (j ∈ ns)) m) g.sh hp)
  exact k p2 _ G0 _ (gA.trans (JH.own gA.sh hp2)) upd_same (gA.sh.free hp2) (gA.sB.free hp2) ⟨_, rfl, DRs.ofInts _⟩
/-- while -/
theorem ws_whileU {γ U : Type} {body : List Stmt} (G : γ → U → List (Nat × Sl)) (V : En → U) (P : γ → Prop) (μ : γ → Nat) (g0 : γ) (hρ : upds ρ (G g0 (V ρ)) = ρ) (h0 : P g0)
    (hs : ∀ g u, P g → ∃ t, TD X (upds ρ (G g u)) c t ∧ (t = true → WSs X body (upds ρ (G g u)) (fun o => match o with | .nx r => ∃ g', upds ρ (G g' (V r)) = r ∧ P g' ∧ μ g' < μ g | .ct r => ∃ g', upds ρ (G g' (V r)) = r ∧ P g' ∧ μ g' < μ g | .bk r => Φ (.nx r) | .rt v => Φ (.rt v) | .ro c => Φ (.ro c) | .rc v cs => Φ (.rc v cs))) ∧ (t = false → Φ (.nx (upds ρ (G g u)))))
    (hp : PassesOwn (model X.prog X.w) X.A X.env X.xe := by exact PassesOwn.never) : WS X (.While c body [] pos) ρ Φ := fun B0 B σ H0 H Dn j k => by
  refine ⟨_, ps_while hp pt_star pss_star, fun m σ1 H1 => ∃ g u L0, m = μ g ∧ P g ∧ J X.K H0 B σ1 L0 H1 (upds ρ (G g u)), ⟨μ g0, g0, V ρ, H0, rfl, h0, by rw [hρ]; exact j.rebase⟩, ?_⟩
  rintro m σ1 H1 ⟨g, u, L0, rfl, p, j1⟩
  obtain ⟨t, ht, h1, h2⟩ := hs g u p
  refine ht H0 B σ1 L0 H1 _ j1 fun L1 H2 g1 => ?_
  cases t with
  | false => exact iteF (k _ (h2 rfl) σ1 L1 H2 (j.unbase (j1.grow g1)))
  | true =>
    refine iteT ⟨fun σ2 H3 => ∃ g' u' L0, μ g' < μ g ∧ P g' ∧ J X.K H0 B σ2 L0 H3 (upds ρ (G g' u')), fun σ2 H3 ⟨g', u', L2, hm, p', j'⟩ => ⟨μ g', hm, g', u', L2, rfl, p', j'⟩, ?_⟩
    refine h1 rfl H0 B σ1 L1 H2 _ (j1.grow g1) fun o ho => ?_
    cases o with
    | nx r => exact fun σ3 M0 M j3 => by obtain ⟨g', e1, p', hm⟩ := ho; exact ⟨g', V r, M0, hm, p', by rw [e1]; exact j3⟩
    | ct r => exact fun σ3 M0 M j3 => by obtain ⟨g', e1, p', hm⟩ := ho; exact ⟨g', V r, M0, hm, p', by rw [e1]; exact j3⟩
    | bk r => exact fun σ3 M0 M j3 => k _ ho σ3 M0 M (j.unbase j3)
    | rt v => exact fun v' M0 M g r => k _ ho v' M0 M ⟨j.hp.s0.trans g.s0, g.sh, g.sB, fun b u e n e' => g.fr b u e n (j.hp.fr b u e n e')⟩ r
    | ro c => exact fun a o M0 M g h1 h2 h3 r => k _ ho a o M0 M ⟨j.hp.s0.trans g.s0, g.sh, g.sB, fun b u e n e' => g.fr b u e n (j.hp.fr b u e n e')⟩ h1 h2 h3 r
    | rc v cs => exact fun a M0 M g h1 h2 r => k _ ho a M0 M ⟨j.hp.s0.trans g.s0, g.sh, g.sB, fun b u e n e' => g.fr b u e n (j.hp.fr b u e n e')⟩ h1 h2 r
/-- x += e, ints -/
theorem ws_aug (i : Nat) {x : Str} {pos' : Pos} {m n : Int} (hN : X.N.Nodup) (hi : ρ[i]? = some (.sh (.int m))) (he : ED X ρ e (.int n)) (hΦ : Φ (.nx (ρ.set i (.sh (.int (m + n)))))) (hx : X.N[i]? = some x := by rfl) (hl : Loc X.env.scope x := by first | exact Or.inl rfl | exact Or.inr rfl)
    (hf : X.fn x = true ∨ X.env.scope.names.lookup x = some .local := by first | exact .inl rfl | exact .inr rfl) : WS X (.AugAssign (.Name x pos') .Add e pos) ρ Φ := fun B0 B σ H0 H Dn j k => by
  obtain ⟨ov, e1, v, rfl, hv⟩ := j.get hi
  cases (show v = .int m from hv)
  refine ⟨_, ps_aug hN hx hl pe_star ip_add hf, _, e1, he B0 B σ H0 H _ j fun w G0 G g r => ?_⟩
  cases (show w = .int n from r)
  exact ⟨m, n, rfl, rfl, k _ hΦ _ G0 G ((j.grow g).setSh (d := .int (m + n)) rfl)⟩
theorem ws_augS (i : Nat) {x : Str} {pos' : Pos} {m n : Int} (hN : X.N.Nodup) (hi : ρ[i]? = some (.sh (.int m))) (he : ED X ρ e (.int n)) (hΦ : Φ (.nx (ρ.set i (.sh (.int (m - n)))))) (hx : X.N[i]? = some x := by rfl) (hl : Loc X.env.scope x := by first | exact Or.inl rfl | exact Or.inr rfl)
    (hf : X.fn x = true ∨ X.env.scope.names.lookup x = some .local := by first | exact .inl rfl | exact .inr rfl) : WS X (.AugAssign (.Name x pos') .Sub e pos) ρ Φ := fun B0 B σ H0 H Dn j k => by
  obtain ⟨ov, e1, v, rfl, hv⟩ := j.get hi
  cases (show v = .int m from hv)
  refine ⟨_, ps_aug hN hx hl pe_star ip_sub hf, _, e1, he B0 B σ H0 H _ j fun w G0 G g r => ?_⟩
  cases (show w = .int n from r)
  exact ⟨m, n, rfl, rfl, k _ hΦ _ G0 G ((j.grow g).setSh (d := .int (m - n)) rfl)⟩
/-- x = y = e -/
theorem ws_asg2 (i m : Nat) {x y : Str} {p1 p2 : Pos} (hN : X.N.Nodup) (he : ED X ρ e d) (hΦ : Φ (.nx ((ρ.set i (.sh d)).set m (.sh d)))) (hi : X.N[i]? = some x := by rfl) (hm : X.N[m]? = some y := by rfl) (hx : Loc X.env.scope x := by first | exact Or.inl rfl | exact Or.inr rfl) (hy : Loc X.env.scope y := by first | exact Or.inl rfl | exact Or.inr rfl)
    (hf : X.fn x = true ∨ X.env.scope.names.lookup x = some .local := by first | exact .inl rfl | exact .inr rfl) (hg : X.fn y = true ∨ X.env.scope.names.lookup y = some .local := by first | exact .inl rfl | exact .inr rfl)
    (ha : (assignEach [.Name x p1, .Name y p2] X.env).map (·.2) = [assign (.Name x p1) X.env, assign (.Name y p2) X.env] := by rfl) (hw : swappedStores [.Name x p1, .Name y p2] e X.env = pure none := by rfl) : WS X (.Assign [.Name x p1, .Name y p2] e pos) ρ Φ := fun B0 B σ H0 H Dn j k =>
  ⟨_, ps_asg2 pe_star (pg_name hN hi hx hf) (pg_name hN hm hy hg) ha hw, he B0 B σ H0 H _ j fun v G0 G g r => k _ hΦ _ G0 G (((j.grow g).setSh r).setSh r)⟩
end
end DL
namespace DL
open PySem PySem.Spec PyProof.Rows L2
/-- 0, 2, 4, .. -/
def rng2 (n : Nat) : List D := (List.range n).map fun (i : Nat) => D.int (2 * (i : Int))
theorem rgC2 {b : Int} {n : Nat} (hb : -(2 ^ 61) ≤ b) (hb' : b < 2 ^ 61) (hn : (n : Int) = (if 0 < b then (b - 1) / 2 + 1 else 0)) : RgC 0 b 2 n := by
  refine ⟨by decide, by decide, ?_, ?_⟩
  · unfold Builtin.Range.small Builtin.Range.rangeSize
    simp only [Builtin.Range.rangeFitsLong, Bool.and_eq_true, Bool.or_eq_true, decide_eq_true_eq, beq_iff_eq, show (2 : Int) > 0 by decide, if_true]
    split <;> omega
  · unfold Builtin.Range.rangeSize
    rw [if_pos (by decide), hn]
    split <;> omega
section
variable {X : Cx} {ρ : En} {Φ : Out → Prop} {e a b c : Expr} {pos : Pos} {d : D} {rest : List Stmt}
theorem dw_range2 {K : PySem.W.Frag} {H0 : Hp} {n : Nat} : DWalk K (Itc 0 2 n) H0 (rng2 n) := by
  refine ⟨_, _, (by rw [show (rng2 n).length = n by simp [rng2]]; exact walk_rangeC), fun _ _ _ _ => trivial, fun i H1 H x H' d hd s1 s2 y => ?_⟩
  obtain ⟨rfl, rfl⟩ := y
  have hi : i < n := by have := (List.getElem?_eq_some_iff.mp hd).1; simpa [rng2] using this
  simp [rng2, List.getElem?_map, List.getElem?_range hi] at hd
  subst hd
  exact ⟨H1, JH.refl s2, by show V.int (0 + (i : Int) * 2) = V.int (2 * (i : Int)); rw [Int.zero_add, Int.mul_comm]⟩
/-- range(0, n, 2) -/
theorem id_range2s {tg : Expr} {p : Pos} {i : Int} {n : Nat} (hg : Gl X "range") (hm : X.mg "range" = none) (ha : ED X ρ a (.int 0)) (hb : ED X ρ b (.int i)) (hc : ED X ρ c (.int 2)) (hbd : -(2 ^ 61) ≤ i ∧ i < 2 ^ 61) (hn : (n : Int) = (if 0 < i then (i - 1) / 2 + 1 else 0))
    (h1 : starEach [a, b, c] X.env = (false, eval a X.env) :: starEach [b, c] X.env := by rfl) (h2 : (backTo pos (starEach [b, c] X.env)).any (·.1) = false := by rfl) (h3 : starEach [b, c] X.env = (false, eval b X.env) :: starEach [c] X.env := by rfl) (h4 : starEach [c] X.env = (false, eval c X.env) :: starEach [] X.env := by rfl) :
    ID X ρ tg (.Call (.Name "range" p) [a, b, c] [] pos) (rng2 n) := fun B0 B σ H0 H R j k =>
  ⟨_, pi_range3 hg hm pa_star h1 h2, ad_cons (X := X) ha (ad_cons hb (ad_cons hc ad_nil h4) h3) h1 B0 B σ H0 H _ j fun vs G0 G g r => by
    obtain ⟨x, r', rfl, q1, r2⟩ := r
    obtain ⟨y, z, rfl, q2, q3⟩ := r2.two
    cases (show x = .int 0 from q1); cases (show y = .int i from q2); cases (show z = .int 2 from q3)
    exact ⟨0, i, 2, n, rfl, rgC2 hbd.1 hbd.2 hn, k _ G0 G g dw_range2⟩⟩
/-- e.extend(f), e a list at a place, f a new list -/
theorem ws_extendA (i : Nat) {p : Addr} {cs : List (Addr × OC)} {d0 : D} {ds zs : List D} {p2 p3 : Pos} (hi : ρ[i]? = some (.ox cs d0)) (hm : (p, OC.lst ds) ∈ cs) (ha : ED X ρ a (.ad p)) (he : EO X ρ e (.lst zs)) (hl : ds.length + zs.length ≤ sizeLine) (hΦ : Φ (.nx (ρ.set i (.ox (putC cs p (.lst (ds ++ zs))) d0))))
    (hs : starEach [e] X.env = (false, eval e X.env) :: starEach [] X.env := by rfl)
    (hpe : ∀ {to : TE} {ta : TA}, PE X a to → PA X [e] ta → PS X (.Expr (.Call (.Attribute a "extend" p2) [e] [] p3) pos) (tDrop (tBM X.K "list" rExtend to ta))) :
    WS X (.Expr (.Call (.Attribute a "extend" p2) [e] [] p3) pos) ρ Φ := fun B0 B σ H0 H Dn j k => by
  refine ⟨_, hpe pe_star (pa_cons pe_star pa_nil hs), ha B0 B σ H0 H _ j fun v G0 G g r => ?_⟩
  cases (show v = .ref p from r)
  obtain ⟨o, h1, h2, h3, vs, rfl, r⟩ := (j.grow g).cell hi hm
  refine ⟨Or.inl ⟨rfl, _, Or.inl (Or.inl h1)⟩, he B0 B σ G0 G _ (j.grow g) fun q o L0 L g2 w1 w2 w3 w4 => ?_⟩
  obtain ⟨ws, rfl, rw⟩ := w4
  have j1 := (j.grow g).grow g2
  obtain ⟨o', h1', h2', h3', vs', rfl, r'⟩ := j1.cell hi hm
  exact ⟨p, q, vs', ws, rfl, rfl, h1', w1, by rw [← DRs.length r', ← DRs.length rw]; exact hl, k _ hΦ _ L0 _ (j1.put hi hm ⟨_, rfl, DRs.app r' rw⟩)⟩
/-- m.append((e1, e2, e3)), e3 a new list, m a list at a place that is told -/
theorem ws_appendT3 (i : Nat) {x : Str} {p1 p2 p3 p4 : Pos} {kk : Nat} {l : Addr} {cs : List (Addr × OC)} {ds zs : List D} {d1 d2 : D} {e1 e2 e3 : Expr} (hi : ρ[i]? = some (.ox ((l, .lst ds) :: cs) (.ad l))) (h1 : ED X ρ e1 d1) (h2 : ED X ρ e2 d2) (h3 : EO X ρ e3 (.lst zs)) (hl : ds.length < sizeLine)
    (hΦ : ∀ q, q ∉ (((l, OC.lst ds) :: cs).map (·.1)) → Φ (.nx (ρ.set i (.ox (putC (((l, OC.lst ds) :: cs) ++ [(q, .lst zs)]) l (.lst (ds ++ [.tup [d1, d2, .ad q]]))) (.ad l)))))
    (hpe : ∀ {ta : TA}, PA X [.Tuple [e1, e2, e3] kk p4] ta → PS X (.Expr (.Call (.Attribute (.Name x p1) "append" p2) [.Tuple [e1, e2, e3] kk p4] [] p3) pos) (tDrop (tBM X.K "list" rAppend (tVar i) ta)))
    (s1 : starEach [e1, e2, e3] X.env = (false, eval e1 X.env) :: starEach [e2, e3] X.env := by rfl) (s2 : starEach [e2, e3] X.env = (false, eval e2 X.env) :: starEach [e3] X.env := by rfl) (s3 : starEach [e3] X.env = (false, eval e3 X.env) :: starEach [] X.env := by rfl)
    (s4 : starEach [.Tuple [e1, e2, e3] kk p4] X.env = (false, eval (.Tuple [e1, e2, e3] kk p4) X.env) :: starEach [] X.env := by rfl) :
    WS X (.Expr (.Call (.Attribute (.Name x p1) "append" p2) [.Tuple [e1, e2, e3] kk p4] [] p3) pos) ρ Φ := fun B0 B σ H0 H Dn j k => by
  obtain ⟨ov, e0, ⟨v, rfl, hvv⟩, _⟩ := j.get hi
  cases (show v = .ref l from hvv)
  obtain ⟨o0, f1, _, _, vs0, rfl, _⟩ := j.cell hi (List.mem_cons_self ..)
  refine ⟨_, hpe (pa_cons (pe_tup (pa_cons pe_star (pa_cons pe_star (pa_cons pe_star pa_nil s3) s2) s1)) pa_nil s4), _, e0, Or.inl ⟨rfl, _, Or.inl (Or.inl f1)⟩, ?_⟩
  refine h1 B0 B σ H0 H _ j fun v1 G0 G g1 r1 => h2 B0 B σ G0 G _ (j.grow g1) fun v2 L0 L g2 r2 => h3 B0 B σ L0 L _ ((j.grow g1).grow g2) fun q o M0 M g3 w1 w2 w3 w4 => ⟨by simp only [List.length_cons, List.length_nil]; decide, fun t ht => ?_⟩
  have j3 := ((j.grow g1).grow g2).more g3 hi w1 w2 w3 w4
  have hlt : i < ρ.length := (List.getElem?_eq_some_iff.mp hi).1
  have hset : (ρ.set i (.ox (((l, OC.lst ds) :: cs) ++ [(q, .lst zs)]) (.ad l)))[i]? = some (.ox (((l, OC.lst ds) :: cs) ++ [(q, .lst zs)]) (.ad l)) := by rw [List.getElem?_set_self hlt]
  have gt : JH M0 M (upd M0 t (.tup [v1, v2, .ref q])) (upd M t (.tup [v1, v2, .ref q])) := JH.new g3.sh ht
  have j4 := j3.grow gt
  obtain ⟨o1, z1, z2, z3, vs, rfl, rr⟩ := j4.cell (a := l) (c := .lst ds) hset (by simp)
  refine ⟨l, vs, .ref t, rfl, rfl, z1, by rw [← DRs.length rr]; exact hl, ?_⟩
  have m2 : DR X.K (upd M0 t (.tup [v1, v2, .ref q])) (.tup [d1, d2, .ad q]) (.ref t) := by
    have sa := (g2.trans (g3.trans gt)).s0
    exact ⟨t, _, rfl, SqT.of upd_same, _, _, rfl, DR.mono sa _ _ r1, _, _, rfl, DR.mono (g3.trans gt).s0 _ _ r2, _, _, rfl, rfl, rfl⟩
  have j5 := j4.put (i := i) (a := l) (c := .lst ds) (c' := .lst (ds ++ [.tup [d1, d2, .ad q]])) (o := .lst (vs ++ [.ref t])) hset (by simp) ⟨_, rfl, DRs.app rr (DRs.one m2)⟩
  rw [List.set_set] at j5
  refine k _ (hΦ q fun hq => ?_) _ _ _ j5
  obtain ⟨_, _, _, _, nd⟩ := j3.get hset
  rw [List.map_append, List.nodup_append] at nd
  exact nd.2.2 q hq q (by simp) rfl
end
end DL
namespace DL
open PySem PySem.Spec PyProof.Rows L2
section
variable {X : Cx} {ρ : En} {a b : Expr} {pos : Pos}
theorem op_catL : OpR X (binaryOp .Add) (fun x y H Q => ∃ (l m : Addr) (xs zs : List V), x = .ref l ∧ y = .ref m ∧ SqL X.K H l xs ∧ SqL X.K H m zs ∧ xs.length + zs.length ≤ sizeLine ∧ ∀ p, H p = none → Q (.ref p) (upd H p (.lst (xs ++ zs)))) := by
  intro pins s σ H x y v u Q I rx ry h
  obtain ⟨l, m, xs, zs, rfl, rfl, h1, h2, hz, q⟩ := h
  cases rx
  cases ry
  obtain ⟨its, r1, ⟨⟨c1, d1, t1, s1⟩, n1, o1, e1, _, f1⟩, _⟩ := I.list h1
  obtain ⟨jts, r2, ⟨⟨c2, d2, t2, s2⟩, n2, o2, e2, _, f2⟩, _⟩ := I.list h2
  simp only at e1 f1 e2 f2
  subst e1 f1 e2 f2
  have hl : its.length + jts.length ≤ sizeLine := by rw [← r1.length, ← r2.length]; exact hz
  refine concat_meets ⟨_, o1, rfl⟩ ⟨_, o2, rfl⟩ noFill_list_add seq_list_add PySem.F.slot_list_add PySem.F.entry_list_add (PySem.F.args_list_add_2 _ _) (list_addW l m its.toArray jts.toArray n1 n2 d1 d2 s1 s2 (by simpa using hl)) ⟨o1, o2, ?_⟩
  have ea : its.toArray ++ jts.toArray = (its ++ jts).toArray := by simp
  rw [ea]
  exact ⟨.ref _, _, I.lnew (t' := s.toks) (r1.append r2) (by rw [List.length_append]; omega), rfl, q _ I.fresh⟩
/-- a + b, lists -/
theorem eo_cat {ds es : List D} (ha : ED X ρ a (.lst ds)) (hb : ED X ρ b (.lst es)) (hl : ds.length + es.length ≤ sizeLine) : EO X ρ (.BinOp a .Add b pos) (.lst (ds ++ es)) := fun B0 B σ H0 H Q j k =>
  RE.of (pe_op op_catL pe_star pe_star) (ha B0 B σ H0 H _ j fun x G0 G g1 r1 => hb B0 B σ G0 G _ (j.grow g1) fun y L0 L g2 r2 => by
    obtain ⟨p, vs, rfl, h1, h2⟩ := DR.mono g2.s0 _ _ r1
    obtain ⟨q, ws, rfl, h3, h4⟩ := r2
    exact ⟨p, q, vs, ws, rfl, rfl, g2.sh.seq h1, g2.sh.seq h3, by rw [← DRs.length h2, ← DRs.length h4]; exact hl, fun z hz => k z _ L0 _ ((g1.trans g2).trans (JH.own g2.sh hz)) upd_same (g2.sh.free hz) ((g1.trans g2).sB.free hz) ⟨_, rfl, DRs.app h2 h4⟩⟩)
end
end DL

/-! list of a dict of squares; an own list and more; regions compared. -/
namespace DL
open PySem PySem.Spec PyProof.Rows L2
section
variable {X : Cx} {ρ : En} {pos : Pos} {a b e : Expr}
/-- list(d), d a dict of squares -/
theorem call_listDQ (hcalm : X.calm = true) : CallR X (.type "list") (fun vs H Q => ∃ (a : Addr) (ks : List Sq), vs = [V.ref a] ∧ Rd H a (.dT (tT ks)) ∧ ∀ ys p, All2 (fun y q => ∃ t, y = V.ref t ∧ H t = some (.tup [.int q.1, .int q.2])) ys ks → H p = none → Q (.ref p) (upd H p (.lst ys))) := by
  intro pins s σ H vs us Q I r h
  obtain ⟨a, ks, rfl, hd, q⟩ := h
  obtain ⟨u, rfl, ru⟩ := vals1 r
  obtain rfl : u = Value.ref a := ru
  obtain ⟨z, lo, xs, rel, o, es, ep, g1, g2, g3, g4, g5⟩ := (show ObjOk X.prog X.w H s.heap a (.dT (tT ks)) from rd_of I.hok hd)
  have hraw : s.heap.DictRaw a es ep := ⟨o, g1, g2, g3⟩
  have rel2 : All2 (fun (x : List Key × Addr × Value) q => H x.2.1 = some (.tup [.int q.1, .int q.2])) xs ks := kt_all2 rel
  have hxl : xs.length = ks.length := rel2.len
  have hes : es.size = ks.length := by rw [← Array.length_toList, g4, List.length_map, hxl]
  have h16 : es.size ≤ sizeLine := by rw [hes, ← tT_len ks]; exact z
  refine PySem.W.kdl_call (KdlSrc.rawDict lo) (I.ok.hd hcalm) hraw h16 fun h' tk acc c' hk hs hacc => ?_
  have hacc2 : All2 (fun v q => ∃ t, v = Value.ref t ∧ H t = some (.tup [.int q.1, .int q.2])) acc.toList ks := by
    refine all2_of (by rw [Array.length_toList, hacc.1, hes]) fun j v q e1 e2 => ?_
    obtain ⟨hj, e3⟩ := hacc.2 j v (by rw [← Array.getElem?_toList]; exact e1)
    obtain ⟨x, e4⟩ : ∃ x, xs[j]? = some x := ⟨xs[j]'(by rw [hxl, ← hes]; exact hj), by simp [show j < xs.length by rw [hxl, ← hes]; exact hj]⟩
    have e5 : es[j] = entryOfKey (tupleKind (mixKind X.prog X.w)) x := by
      have := congrArg (fun l => l[j]?) g4
      simp only [Array.getElem?_toList, List.getElem?_map, e4, Option.map_some] at this
      rw [Array.getElem?_eq_getElem hj] at this
      exact Option.some.inj this
    exact ⟨x.2.1, by rw [e3, e5]; rfl, rel2.get e4 e2⟩
  have hlen : acc.toList.length = ks.length := hacc2.len
  have h3 : ∀ u ∈ acc.toList, ∃ a, u = Value.ref a := fun u hu => by
    obtain ⟨j, hj, e⟩ := List.getElem_of_mem hu
    have e1 : acc.toList[j]? = some u := by rw [List.getElem?_eq_getElem hj, e]
    obtain ⟨qq, e2⟩ : ∃ z, ks[j]? = some z := ⟨ks[j]'(by rw [← hlen]; exact hj), List.getElem?_eq_getElem _⟩
    obtain ⟨t, e3, _⟩ := hacc2.get e1 e2
    exact ⟨t, e3⟩
  refine ⟨.ref s.heap.objs.size, upd H s.heap.objs.size (.lst (acc.toList.map backV)), I.laid (t' := tk) hk (Nat.le_refl _) (show ObjOk X.prog X.w _ h' _ (.lst (acc.toList.map backV)) from ⟨?_, acc.toList, c', vals_back h3, hs⟩), rfl, q _ _ ?_ (I.hok.fresh (Nat.le_refl _))⟩
  · rw [List.length_map, hlen, ← hes]; exact h16
  · refine all2_of (by rw [List.length_map, hlen]) fun j y sq e1 e2 => ?_
    rw [List.getElem?_map] at e1
    cases e0 : acc.toList[j]? with
    | none => rw [e0] at e1; cases e1
    | some u =>
      rw [e0] at e1
      cases e1
      obtain ⟨t, e, ht⟩ := hacc2.get e0 e2
      exact ⟨t, by rw [e]; rfl, ht⟩
theorem bo_listDQ {ks : List Sq} (hc : X.calm = true) : BO X (.type "list") [(dicD ks).d] (.lst (ks.map dq)) := ⟨_, call_listDQ hc, fun H0 H vs Q s r k => by
  obtain ⟨x, rfl, h⟩ := r.one'
  obtain ⟨a, rfl, h1⟩ := dr_dic h
  refine ⟨a, ks, rfl, Same.rd s h1, fun zs p hz hp => ?_⟩
  have g := JH.tups s
  refine k p _ _ _ (g.trans (JH.own g.sh hp)) upd_same (g.sh.free hp) hp ⟨zs, rfl, sqs_drs (hz.imp fun y q ⟨t, e, ht⟩ => ⟨t, e, SqT.of (tups_at s ht)⟩)⟩⟩
/-- xs + b, xs a list that a slot owns -/
theorem eo_catO (m : Nat) {x : Str} {p1 : Pos} {ds es : List D} (hρ : ρ[m]? = some (.ow (.lst ds))) (hb : ED X ρ b (.lst es)) (hl : ds.length + es.length ≤ sizeLine) (hN : X.N[m]? = some x := by rfl) (hv : Vis X.env.scope x := by first | exact Or.inl rfl | exact Or.inr (Or.inl rfl) | exact Or.inr (Or.inr rfl)) (hd : (x == ("__debug__" : Str)) = false := by decide)
    (hcd : (x == ("__classdict__" : Str)) = false := by decide) : EO X ρ (.BinOp (.Name x p1) .Add b pos) (.lst (ds ++ es)) := fun B0 B σ H0 H Q j k => by
  obtain ⟨ov, e0, p, o, rfl, h1, h2, h3, vs, rfl, r⟩ := j.get hρ
  refine RE.of (pe_op op_catL (pe_var hN hv hd hcd) pe_star) ⟨_, e0, hb B0 B σ H0 H _ j fun y L0 L g2 r2 => ?_⟩
  obtain ⟨q, ws, rfl, h5, h6⟩ := r2
  have hp : L p = some (.lst vs) := g2.sB _ _ h1
  exact ⟨p, q, vs, ws, rfl, rfl, SqL.of hp, g2.sh.seq h5, by rw [← DRs.length r, ← DRs.length h6]; exact hl, fun z hz => k z _ L0 _ (g2.trans (JH.own g2.sh hz)) upd_same (g2.sh.free hz) (g2.sB.free hz) ⟨_, rfl, DRs.app (DRs.mono g2.s0 _ _ r) h6⟩⟩
theorem call_lenDQ : CallR X (.builtin "len") (fun vs H Q => ∃ (a : Addr) (kvs : List (List Key × V)), vs = [V.ref a] ∧ Rd H a (.dT kvs) ∧ Q (.int kvs.length) H) := by
  intro pins s σ H vs us Q I r h
  obtain ⟨a, kvs, rfl, h1, q⟩ := h
  obtain ⟨u, rfl, ru⟩ := vals1 r
  obtain rfl : u = Value.ref a := ru
  obtain ⟨z, hd, xs, rel, dd⟩ := dt_rd I.hok h1
  exact call_len_dictH hd dd (by rw [← rel.length]; rw [sizeLine_eq] at z; omega) ⟨.int kvs.length, H, I.tok _, ⟨_, by rw [rel.length]⟩, q⟩
theorem bc_lenDQ {ks : List Sq} : BC X (.builtin "len") [(dicD ks).d] (.int ks.length) := bc_keep call_lenDQ _ (fun _ => rfl) fun H0 H vs _ s r q => by
  obtain ⟨x, rfl, h⟩ := r.one'
  obtain ⟨a, rfl, h1⟩ := dr_dic h
  exact ⟨a, tT ks, rfl, Same.rd s h1, by rw [tT_len]; exact q⟩
theorem op_notInSq (hu : X.A.units + 1 < cLine) : OpR X (compareOp .NotIn) (fun x y H Q => ∃ (a b : Addr) (kvs : List (List Key × V)) (k : List Key), x = .ref b ∧ y = .ref a ∧ Rd H a (.dT kvs) ∧ SqT X.K H b (k.map kV) ∧ Q (.bl (!(valV kvs k).isSome)) H) := by
  rintro pins s σ H x y v u Q I rx ry ⟨a, b, kvs, k, rfl, rfl, h1, h2, q⟩
  cases (show v = Value.ref b from rx); cases (show u = Value.ref a from ry)
  obtain ⟨z, hd, xs, rel, dd⟩ := dt_rd I.hok h1
  obtain ⟨its, r, ⟨o, e, c, n, dat⟩, _⟩ := I.tuple h2
  refine wpAny_notIn_heap (tupleKind_room_in1 hu) (k := k) ⟨o, its.toArray, n, e, c, dat, by simpa using items_are r⟩ hd dd ?_
  have qq := (rel.val k).isSome_eq
  rw [Option.isSome_map] at qq
  rw [← qq]
  exact ⟨.bl (!(valV kvs k).isSome), H, I.tok _, rfl, q⟩
theorem td_notInSqO (i : Nat) {x : Str} {p1 : Pos} {ks : List Sq} {m n : Int} (hu : X.A.units + 64 < cLine) (hρ : ρ[i]? = some (.ow (dicD ks))) (ha : ED X ρ a (.tup [.int m, .int n])) (hN : X.N[i]? = some x := by rfl)
    (hv : Vis X.env.scope x := by first | exact Or.inl rfl | exact Or.inr (Or.inl rfl) | exact Or.inr (Or.inr rfl)) (hd : (x == ("__debug__" : Str)) = false := by decide) (hcd : (x == ("__classdict__" : Str)) = false := by decide) (hm : behindInMarks .NotIn (.Name x p1) = false := by first | exact nomark _ | rfl) :
    TD X ρ (.Compare a [.NotIn] [.Name x p1] pos) (!decide ((m, n) ∈ ks)) := fun B0 B σ H0 H Q j kk => by
  refine RT.of (pt_cmpR (op_notInSq (by omega)) pe_star (pe_var hN hv hd hcd) hm) (ha B0 B σ H0 H _ j fun v G0 G g r => ?_)
  obtain ⟨ov, e1, q, o, rfl, h1, h2, h3, h4⟩ := (j.grow g).get hρ
  cases ocr_dic.mp h4
  obtain ⟨b, vs, rfl, f1, r⟩ := r
  obtain ⟨u, w, rfl, e2, e3⟩ := r.two
  cases (show u = .int m from e2); cases (show w = .int n from e3)
  exact ⟨.ref q, e1, q, b, _, kq (m, n), rfl, rfl, .inl h1, Same.seqT g.sh f1, _, rfl, by rw [tT_val]; exact kk G0 G g⟩
theorem bx_inj {l m : List Bx} : l.map Bx.e = m.map Bx.e ↔ l = m := List.map_inj_right (f := Bx.e) (fun a b e => Bx.inj e)
theorem c2_eqBx {l m : List Bx} (hu : X.A.units + 64 < cLine) : C2 X .Eq (.tup (l.map Bx.e)) (.tup (m.map Bx.e)) (.bl (decide (l = m))) :=
  c2_eqC (n := 2) (m := 2) hu (.tup Bx.cms) (.tup Bx.cms) (by simp [bx_inj])
theorem c2_neBx {l m : List Bx} (hu : X.A.units + 64 < cLine) : C2 X .NotEq (.tup (l.map Bx.e)) (.tup (m.map Bx.e)) (.bl (!decide (l = m))) :=
  c2_neC (n := 2) (m := 2) hu (.tup Bx.cms) (.tup Bx.cms) (by simp [bx_inj])
section
variable {elt tg : Expr} {ifs : List Expr} {scope : Scope} {cpos : Pos} {Φ : Out → Prop}
/-- y = [.. for .. in d ..], d a dict of squares that a slot owns, y a local on the same line -/
theorem ws_setLcSq (i m : Nat) {x y : Str} {p1 py : Pos} {ks : List Sq} (own : List (Str × Nat)) (hc : X.calm = true) (hN : X.N.Nodup) (ok : BlkOk X.N X.env.scope scope own) (hρ : ρ[i]? = some (.ow (dicD ks))) (ys : List (Option D)) (hlen : ys.length = ks.length) (turn : ∀ (n : Nat) d y, (ks.map dq)[n]? = some d → ys[n]? = some y → Turn1 X (ρ.set i .no) scope (own.map (·.2)) tg elt ifs d y) (hl : ks.length ≤ sizeLine)
    (hΦ : Φ (.nx (ρ.set m (.ow (.lst (ys.filterMap id)))))) (hNi : X.N[i]? = some x := by rfl) (hy : X.N[m]? = some y := by rfl) (hyl : X.env.scope.names.lookup y = some .local := by rfl) (hv : Vis X.env.scope x := by first | exact Or.inl rfl | exact Or.inr (Or.inl rfl) | exact Or.inr (Or.inr rfl)) (hd : (x == ("__debug__" : Str)) = false := by decide) (hcd : (x == ("__classdict__" : Str)) = false := by decide)
    (hsw : swapsWith (.ListComp elt [⟨tg, .Name x p1, ifs, 0⟩] scope cpos) (some (.Name y py)) pos.line X.env = pure true := by exact sw_true rfl rfl rfl (by decide +kernel)) (hs : ∀ z, foldedSetIterable (.Name x p1) X.env z = pure z := by intro _; rfl) :
    WS X (.Assign [.Name y py] (.ListComp elt [⟨tg, .Name x p1, ifs, 0⟩] scope cpos) pos) ρ Φ := fun B0 B σ H0 H Dn j k => by
  obtain ⟨a, e1, h1, h2, h3, jl⟩ := j.lockSq hρ
  refine ⟨_, ps_lock (ps_setLc hc hN hy hyl hsw pi_star ok (g := GB X scope tg) (tt := TB X scope ifs) (te := EB X scope elt)
    (fun s H C cl fp => ⟨fun pins s1 σ1 H1 v u Q1 I r h => (pg_star (tg := tg)).run pins s1 σ1 H1 v u Q1 I r (h s H C cl fp)⟩)
    (fun s H C cl fp => ⟨fun pins s1 σ1 H1 Q1 I h => by obtain ⟨t, h1, h2⟩ := h s H C cl fp; exact h1.run pins s1 σ1 H1 Q1 I h2⟩)
    (fun s H C cl fp => ⟨fun pins s1 σ1 H1 Q1 I h => (pe_star (e := elt)).run pins s1 σ1 H1 Q1 I (h s H C cl fp)⟩) hs), a, _, h1, trivial, fun od => ?_⟩
  refine lc_readJ (ds := ks.map dq) (fun R hR => ⟨_, pi_keys (pe_var hNi hv hd hcd), .ref a, e1, a, od, rfl, .inr ⟨tT ks, upd_same, hR _ H0 _ (JH.refl (jl od).same) (dwj_sq upd_same)⟩⟩) ys (by rw [List.length_map]; exact hlen) turn (by rw [List.length_map]; exact hl) (jl od) fun b o H0' H' g e2 e3 e4 r => ?_
  have gu := JH.unlock h1 h2 g
  have nb : b ≠ a := fun z => by rw [z, upd_same] at e4; cases e4
  rw [upd_ne nb] at e4
  exact ⟨gu.1, k _ hΦ _ H0' _ (j.setNew gu.2 (by rw [upd_ne nb]; exact e2) e3 e4 r)⟩
theorem ws_setFilterSq (i m : Nat) {x y : Str} {p1 py : Pos} {ks : List Sq} (own : List (Str × Nat)) (p : Sq → Bool) (hc : X.calm = true) (hN : X.N.Nodup) (ok : BlkOk X.N X.env.scope scope own) (hρ : ρ[i]? = some (.ow (dicD ks))) (turn : ∀ q ∈ ks, Turn1 X (ρ.set i .no) scope (own.map (·.2)) tg elt ifs (dq q) (if p q = true then some (dq q) else none)) (hl : ks.length ≤ sizeLine)
    (hΦ : Φ (.nx (ρ.set m (.ow (.lst ((ks.filter p).map dq)))))) (hNi : X.N[i]? = some x := by rfl) (hy : X.N[m]? = some y := by rfl) (hyl : X.env.scope.names.lookup y = some .local := by rfl) (hv : Vis X.env.scope x := by first | exact Or.inl rfl | exact Or.inr (Or.inl rfl) | exact Or.inr (Or.inr rfl)) (hd : (x == ("__debug__" : Str)) = false := by decide) (hcd : (x == ("__classdict__" : Str)) = false := by decide)
    (hsw : swapsWith (.ListComp elt [⟨tg, .Name x p1, ifs, 0⟩] scope cpos) (some (.Name y py)) pos.line X.env = pure true := by exact sw_true rfl rfl rfl (by decide +kernel)) (hs : ∀ z, foldedSetIterable (.Name x p1) X.env z = pure z := by intro _; rfl) :
    WS X (.Assign [.Name y py] (.ListComp elt [⟨tg, .Name x p1, ifs, 0⟩] scope cpos) pos) ρ Φ :=
  ws_setLcSq i m own hc hN ok hρ (ks.map fun q => if p q = true then some (dq q) else none) (by simp) (turns_if rfl turn) hl (by rw [filterMap_if]; exact hΦ) hNi hy hyl hv hd hcd hsw hs
end
end
section
variable {X : Cx} {ρ : En} {st : Stmt} {rest : List Stmt} {Φ : Out → Prop}
/-- the ways through a statement come together -/
theorem ws_join {γ U : Type} (G : γ → U → List (Nat × Sl)) (V : En → U) (P : γ → Prop) (h : WS X st ρ (fun o => match o with | .nx r => ∃ g, P g ∧ r = upds ρ (G g (V r)) | .bk r => Φ (.bk r) | .ct r => Φ (.ct r) | .rt v => Φ (.rt v) | .ro c => Φ (.ro c) | .rc v cs => Φ (.rc v cs)))
    (k : ∀ g u, P g → WSs X rest (upds ρ (G g u)) Φ) : WSs X (st :: rest) ρ Φ := by
  refine ws_cons fun B0 B σ H0 H Dn j kk => h B0 B σ H0 H Dn j fun o ho => ?_
  cases o with
  | nx r =>
    obtain ⟨g, hp, e⟩ := ho
    have := k g (V r) hp
    rw [← e] at this
    exact kk (.nx r) this
  | bk r => exact kk _ ho
  | ct r => exact kk _ ho
  | rt v => exact kk _ ho
  | ro c => exact kk _ ho
  | rc v cs => exact kk _ ho
end
end DL

/-! Instances of classes of the text: made by __init__, then shared; fields read; methods called. -/
namespace DL
open PySem PySem.Spec PyProof.Rows L2

/-- what the top says of a class: cn its name, fs its fields -/
structure Kl (K : PySem.W.Frag) (mg : Str → Option Value) (cn : Str) (fs : List Str) : Prop where
  ex : ∃ C, PySem.W.nsIn K mainGlobals cn = some (some (.ref C)) ∧ mg cn = some (.ref C) ∧ C8.InsC K C ∧ PySem.W.keepIn K (.ref C) = true ∧ ∀ f ∈ fs, NoAttr K C f

theorem kit_self {K : PySem.W.Frag} {C : Addr} : PySem.W.kitOne K (.ref C) (.ref C) = some true := by
  unfold PySem.W.kitOne
  exact if_pos (by first | rfl | simp | decide)
theorem zip_at {f : Str} : ∀ {ns : List Str} {vs : List V} {i : Nat} {v : V}, ns[i]? = some f → (ns.take i).contains f = false → vs[i]? = some v → (ns.zip vs).lookup f = some v
  | n :: ns, w :: vs, 0, v, h1, _, h3 => by
    simp only [List.getElem?_cons_zero, Option.some.injEq] at h1 h3
    subst h1; subst h3
    simp [List.lookup_cons]
  | n :: ns, w :: vs, i + 1, v, h1, h2, h3 => by
    simp only [List.getElem?_cons_succ] at h1 h3
    rw [List.take_succ_cons, List.contains_cons, Bool.or_eq_false_iff] at h2
    rw [List.zip_cons_cons, List.lookup_cons]
    rw [h2.1]
    exact zip_at h1 h2.2 h3
  | [], vs, i, v, h1, _, _ => by simp at h1
  | n :: ns, [], i, v, _, _, h3 => by simp at h3
theorem zip_none {m : Str} : ∀ {ns : List Str} {vs : List V}, ns.contains m = false → (ns.zip vs).lookup m = none
  | [], vs, _ => by simp
  | n :: ns, [], _ => by simp
  | n :: ns, v :: vs, h => by
    rw [List.contains_cons, Bool.or_eq_false_iff] at h
    rw [List.zip_cons_cons, List.lookup_cons, h.1]
    exact zip_none h.2
theorem putF_new {f : Str} {y : V} : ∀ {ns : List Str} {vs : List V}, ns.contains f = false → ns.length = vs.length → putF f y (ns.zip vs) = (ns ++ [f]).zip (vs ++ [y])
  | [], [], _, _ => rfl
  | n :: ns, v :: vs, h, hl => by
    rw [List.contains_cons, Bool.or_eq_false_iff] at h
    have hne : ¬ (n = f) := fun e => by rw [e] at h; simp at h
    show (if n = f then _ else (n, v) :: putF f y (ns.zip vs)) = _
    rw [if_neg hne, putF_new h.2 (by simpa using hl)]
    rfl
  | [], v :: vs, _, hl => by simp at hl
  | n :: ns, [], _, hl => by simp at hl

section
variable {X : Cx} {ρ : En} {e : Expr} {pos : Pos} {cn f : Str} {ns fs : List Str} {ds : List D} {d : D}
/-- e.f, e an instance that is shared -/
theorem ed_fld (i : Nat) (kl : Kl X.K X.mg cn fs) (he : ED X ρ e (.obj cn ns ds)) (hn : ns[i]? = some f := by rfl) (hd : ds[i]? = some d := by rfl) (hu : (ns.take i).contains f = false := by decide +kernel) (hf : f ∈ fs := by decide +kernel)
    (hb : attributeBase e f X.env (eval e X.env) = eval e X.env := by rfl) : ED X ρ (.Attribute e f pos) d := fun B0 B σ H0 H Q j k => by
  refine RE.of (pe_fld pe_star hb) (he B0 B σ H0 H _ j fun v G0 G g r => ?_)
  obtain ⟨a, C, dx, vs, rfl, hC, ha, hlen, hvs⟩ := r
  obtain ⟨C', hC', hm, hc, hk, hna⟩ := kl.ex
  rw [hC] at hC'; cases hC'
  obtain ⟨v, hv, rv⟩ := DRs.get hvs hd
  exact ⟨a, C, dx, _, v, rfl, g.sh _ _ ha, hc.cl, hna f hf, zip_at hn hu hv, k v G0 G g rv⟩
/-- e.f, e the instance that slot s holds as its own -/
theorem ed_fldO (s i : Nat) {a : Addr} {x : Str} {p : Pos} (kl : Kl X.K X.mg cn fs) (hρ : ρ[s]? = some (.ox [(a, .ins cn ns ds)] (.ad a))) (hn : ns[i]? = some f := by rfl) (hd : ds[i]? = some d := by rfl) (hu : (ns.take i).contains f = false := by decide +kernel) (hf : f ∈ fs := by decide +kernel)
    (hN : X.N[s]? = some x := by rfl) (hv : Vis X.env.scope x := by first | exact Or.inl rfl | exact Or.inr (Or.inl rfl) | exact Or.inr (Or.inr rfl)) (hdb : (x == ("__debug__" : Str)) = false := by decide) (hcd : (x == ("__classdict__" : Str)) = false := by decide)
    (hb : attributeBase (.Name x p) f X.env (eval (.Name x p) X.env) = eval (.Name x p) X.env := by rfl) : ED X ρ (.Attribute (.Name x p) f pos) d := fun B0 B σ H0 H Q j k => by
  obtain ⟨ov, e1, ⟨v, rfl, rv⟩, hcs, _⟩ := j.get hρ
  cases (show v = .ref a from rv)
  obtain ⟨o, h1, h2, h3, h4⟩ := (hcs _ (List.mem_singleton_self _)).ex
  obtain ⟨vs, C, dx, rfl, hC, hlen, hvs⟩ := h4
  obtain ⟨C', hC', hm, hc, hk, hna⟩ := kl.ex
  rw [hC] at hC'; cases hC'
  obtain ⟨v, hv', rv⟩ := DRs.get hvs hd
  exact RE.of (pe_fld (pe_var hN hv hdb hcd) hb) ⟨_, e1, a, C, dx, _, v, rfl, h1, hc.cl, hna f hf, zip_at hn hu hv', k v H0 H (JH.refl j.same) rv⟩
/-- self.f = e, a new field -/
theorem ws_setF (s : Nat) {a : Addr} {x : Str} {p pos' : Pos} {value : Expr} {Φ : Out → Prop} (kl : Kl X.K X.mg cn fs) (hρ : ρ[s]? = some (.ox [(a, .ins cn ns ds)] (.ad a))) (hv : ED X ρ value d) (hΦ : Φ (.nx (ρ.set s (.ox [(a, .ins cn (ns ++ [f]) (ds ++ [d]))] (.ad a)))))
    (hnew : ns.contains f = false := by decide +kernel) (hf : f ∈ fs := by decide +kernel) (hlt : ns.length < 1000 := by decide)
    (hN : X.N[s]? = some x := by rfl) (hvis : Vis X.env.scope x := by first | exact Or.inl rfl | exact Or.inr (Or.inl rfl) | exact Or.inr (Or.inr rfl)) (hdb : (x == ("__debug__" : Str)) = false := by decide) (hcd : (x == ("__classdict__" : Str)) = false := by decide)
    (hs : swapsWith value (some (.Attribute (.Name x p) f pos')) pos.line X.env = pure false := by rfl) : WS X (.Assign [.Attribute (.Name x p) f pos'] value pos) ρ Φ := fun B0 B σ H0 H Dn j k => by
  refine ⟨_, ps_fld (pe_var hN hvis hdb hcd) pe_star hs, hv B0 B σ H0 H _ j fun v G0 G g r => ?_⟩
  have j1 := j.grow g
  obtain ⟨ov, e1, ⟨v1, rfl, rv⟩, hcs, _⟩ := j1.get hρ
  cases (show v1 = .ref a from rv)
  obtain ⟨o, h1, h2, h3, h4⟩ := (hcs _ (List.mem_singleton_self _)).ex
  obtain ⟨vs, C, dx, rfl, hC, hlen, hvs⟩ := h4
  obtain ⟨C', hC', hm, hc, hk, hna⟩ := kl.ex
  rw [hC] at hC'; cases hC'
  have hl : (ns.zip vs).length < 1000 := by rw [List.length_zip]; omega
  refine ⟨_, e1, a, C, dx, _, rfl, h1, hc.cl, hna f hf, hl, ?_⟩
  rw [putF_new hnew hlen]
  have j2 := j1.put (c' := .ins cn (ns ++ [f]) (ds ++ [d])) (o := .ins C dx ((ns ++ [f]).zip (vs ++ [v]))) hρ (List.mem_singleton_self _) ⟨vs ++ [v], C, dx, rfl, hC, by simp [hlen], DRs.app hvs (DRs.one r)⟩
  have e : putC [(a, OC.ins cn ns ds)] a (.ins cn (ns ++ [f]) (ds ++ [d])) = [(a, .ins cn (ns ++ [f]) (ds ++ [d]))] := by simp [putC]
  rw [e] at j2
  exact k _ hΦ _ _ _ j2
/-- isinstance(e, C), e an instance of C -/
theorem ed_isC {p1 p2 : Pos} (kl : Kl X.K X.mg cn fs) (hg : Gl X "isinstance") (hm : X.mg "isinstance" = none) (hgc : Gl X cn) (he : ED X ρ e (.obj cn ns ds))
    (hdc : (cn == ("__debug__" : Str)) = false := by decide +kernel)
    (h1 : starEach [e, .Name cn p2] X.env = (false, eval e X.env) :: starEach [.Name cn p2] X.env := by rfl) (h2 : starEach [.Name cn p2] X.env = (false, eval (.Name cn p2) X.env) :: starEach [] X.env := by rfl) (h3 : (backTo pos (starEach [.Name cn p2] X.env)).any (·.1) = false := by rfl) :
    ED X ρ (.Call (.Name "isinstance" p1) [e, .Name cn p2] [] pos) (.bl true) := fun B0 B σ H0 H Q j k => by
  obtain ⟨C', hC', hmc, hc, hk, hna⟩ := kl.ex
  refine RE.of (pe_callB (C8.call_isC hc) hg hm bb_isinstance (pa_cons pe_star (pa_cons (pe_glob (v := .ref C') hgc hmc rfl hdc) pa_nil h2) h1) (by decide) (by decide) h1 h3) (he B0 B σ H0 H _ j fun v G0 G g r => ?_)
  obtain ⟨a, C, dx, vs, rfl, hC, ha, hlen, hvs⟩ := r
  rw [hC] at hC'; cases hC'
  exact ⟨a, dx, _, rfl, g.sh _ _ ha, k _ G0 G g rfl⟩
end

/-! ### __init__ -/
/-- a heap without a -/
def er (H : Hp) (a : Addr) : Hp := fun b => if b = a then none else H b
theorem er_same {H : Hp} {a : Addr} : er H a a = none := if_pos rfl
theorem er_ne {H : Hp} {a b : Addr} (h : b ≠ a) : er H a b = H b := if_neg h
theorem er_sub {H : Hp} {a : Addr} : Same (er H a) H := fun b u e => by
  by_cases h : b = a
  · subst h; rw [er_same] at e; cases e
  · rwa [er_ne h] at e
/-- __init__'s promise: R of the arguments, the fields' names, the fields -/
def spI (K : PySem.W.Frag) (cn : Str) (R : List D → List Str → List D → Prop) : Sp := fun vs H Q _ => ∃ H0 a C dx ds ns es ws, vs = .ref a :: ws ∧ PySem.W.nsIn K mainGlobals cn = some (some (.ref C)) ∧ Same H0 H ∧ H a = some (.ins C dx []) ∧ H0 a = none ∧ DRs K H0 ds ws ∧ R ds ns es ∧
  ∀ H0' H' o, JH H0 (er H a) H0' H' → H' a = some o → H0' a = none → OCR K H0' (.ins cn ns es) o → Q .non H'
def enI (N : List Str) (a : Addr) (cn : Str) (ds : List D) : En := .ox [(a, .ins cn [] [])] (.ad a) :: (ds.map Sl.sh ++ List.replicate (N.length - (ds.length + 1)) Sl.no)
section
variable {P : Program} {w : World} {K : PySem.W.Frag} {mg : Str → Option Value} {base : Heap}
theorem j_startI {N : List Str} {H0 H : Hp} {a C dx : Addr} {cn : Str} {ds : List D} {vs : List V} (s : Same H0 H) (hC : PySem.W.nsIn K mainGlobals cn = some (some (.ref C))) (ha : H a = some (.ins C dx [])) (h0 : H0 a = none) (r : DRs K H0 ds vs) (hl : ds.length + 1 ≤ N.length) : J K H0 (er H a) (L2.start N (.ref a :: vs)) H0 H (enI N a cn ds) := by
  have hlen := DRs.length r
  have kind : ∀ (i : Nat) s, (enI N a cn ds)[i]? = some s → i = 0 ∨ s = .no ∨ ∃ d, s = .sh d := fun i s h => by
    cases i with
    | zero => exact .inl rfl
    | succ i =>
      refine .inr ?_
      unfold enI at h
      rw [List.getElem?_cons_succ] at h
      by_cases hi : i < ds.length
      · rw [List.getElem?_append_left (by simpa using hi), List.getElem?_map, show ds[i]? = some ds[i] by simp [hi]] at h
        cases h; exact .inr ⟨_, rfl⟩
      · rw [List.getElem?_append_right (by simp; omega), List.getElem?_replicate] at h
        split at h
        · cases h; exact .inl rfl
        · cases h
  refine ⟨⟨Same.refl _, s, er_sub, fun b o e _ h => h⟩, by simp [L2.start, enI, hlen], fun i sl ov h1 h2 => ?_, fun i j s1 s2 o1 o2 b h1 h2 _ _ w1 w2 => ?_⟩
  · cases i with
    | zero =>
      unfold enI at h1
      unfold L2.start at h2
      simp only [List.getElem?_cons_zero, Option.some.injEq, List.map_cons, List.cons_append] at h1 h2
      subst h1; subst h2
      refine ⟨⟨_, rfl, rfl⟩, fun p hp => ?_, by simp⟩
      rw [List.mem_singleton] at hp; subst hp
      exact ⟨_, ha, h0, er_same, [], C, dx, rfl, hC, rfl, rfl⟩
    | succ i =>
      unfold enI at h1
      unfold L2.start at h2
      simp only [List.getElem?_cons_succ, List.map_cons, List.cons_append] at h1 h2
      by_cases hi : i < ds.length
      · rw [List.getElem?_append_left (by simpa using hi), List.getElem?_map] at h1
        rw [List.getElem?_append_left (by simp; omega), List.getElem?_map] at h2
        obtain ⟨v, e1, e2⟩ := DRs.get r (show ds[i]? = some ds[i] by simp [hi])
        rw [show ds[i]? = some ds[i] by simp [hi]] at h1
        rw [e1] at h2
        cases h1; cases h2
        exact ⟨v, rfl, e2⟩
      · rw [List.getElem?_append_right (by simp; omega), List.getElem?_replicate] at h1
        split at h1
        · cases h1; trivial
        · cases h1
  · rcases kind i s1 h1 with e1 | e1
    · rcases kind j s2 h2 with e2 | e2
      · rw [e1, e2]
      · exact absurd w2 (Owns.none e2 b)
    · exact absurd w1 (Owns.none e1 b)
theorem fn_okI {x qual : Str} {st : Stmt} {f : Addr} {fd : FuncData} {N ps : List Str} {k : Nat} {cn : Str} {R : List D → List Str → List D → Prop} (F : Fun K x qual st f fd) (S : FnScope N ps (defScope st)) (hR : ∀ ds ns es, R ds ns es → ds.length + 1 = ps.length)
    (h : ∀ a ds ns es, R ds ns es → ∀ (cdv : Value) (A : Around) (outer : List Env) (s : Shared) (H : Hp) (E : XK), Room k (A.deeper (envOfC qual (defScope st) s.heap.objs.size f cdv)) →
      WSs (bx P w K mg base N qual st f cdv A outer s H E) (defBody st) (enI N a cn ds) (fun o => ∃ ρ es', o = .nx ρ ∧ ρ[0]? = some (.ox [(a, .ins cn ns es')] (.ad a)) ∧ ∀ H vs, DRs K H es' vs → DRs K H es vs)) : FnOk P w K mg base CX0 (k + 1) f fd ps (spI K cn R) := by
  refine F.ok S (fun vs H Q E hs => ?_) fun cdv A outer s H vs Q E hr hs => ?_
  · obtain ⟨H0, a, C, dx, ds, ns, es, ws, rfl, hC, s0, ha, h0, r, q, _⟩ := hs
    rw [List.length_cons, ← DRs.length r]; exact hR ds ns es q
  · obtain ⟨H0, a, C, dx, ds, ns, es, ws, rfl, hC, s0, ha, h0, r, q, kk⟩ := hs
    have hN : ds.length + 1 ≤ N.length := by
      have h1 := hR ds ns es q
      have h2 := congrArg List.length S.pre
      rw [List.length_take] at h2
      omega
    obtain ⟨t, h1, h2⟩ := h a ds ns es q cdv A outer s H E hr H0 (er H a) (L2.start N (.ref a :: ws)) H0 H (j_startI s0 hC ha h0 r hN) (Dn := { nx := fun _ H' => Q .non H', rt := Q }) fun o ho => by
      obtain ⟨ρ, es', rfl, hρ, hw⟩ := ho
      intro σ G0 G j
      obtain ⟨ov, e1, ⟨v, rfl, rv⟩, hcs, _⟩ := j.get hρ
      obtain ⟨o, g1, g2, g3, g4⟩ := (hcs _ (List.mem_singleton_self _)).ex
      obtain ⟨vs, C', dx', e1, e2, e3, e4⟩ := g4
      exact kk G0 G o j.hp g1 g2 ⟨vs, C', dx', e1, e2, e3, hw _ _ e4⟩
    exact ⟨t, h1, h2⟩
/-- a class that is made by calling it -/
structure FnI (P : Program) (w : World) (K : PySem.W.Frag) (mg : Str → Option Value) (base : Heap) (cn : Str) (k : Nat) (R : List D → List Str → List D → Prop) : Prop where
  ex : ∃ C f fd ps, PySem.W.nsIn K mainGlobals cn = some (some (.ref C)) ∧ mg cn = some (.ref C) ∧ Mk K C f ∧ FnOk P w K mg base CX0 k f fd ps (spI K cn R) ∧ Binds K fd ps []
theorem eo_make {X : Cx} {ρ : En} {e : Expr} {pos : Pos} {cn : Str} {k : Nat} {R : List D → List Str → List D → Prop} {es : List Expr} {ds zs : List D} {ns : List Str} {p : Pos} (G : FnI X.prog X.w X.K X.mg X.base cn k R) (hr : Room (k + 1) X.A) (hg : Gl X cn) (ha : AD X ρ (e :: es) ds) (hR : R ds ns zs)
    (hdb : (cn == ("__debug__" : Str)) = false := by decide +kernel) (he : starEach (e :: es) X.env = (false, eval e X.env) :: starEach es X.env := by rfl) (hpl : (backTo pos (starEach es X.env)).any (·.1) = false := by rfl) :
    EO X ρ (.Call (.Name cn p) (e :: es) [] pos) (.ins cn ns zs) := fun B0 B σ H0 H Q j kk => by
  obtain ⟨C, f, fd, ps, hC, hm, M, F, hb⟩ := G.ex
  refine RE.of (pe_make (E := E0) M F hr hg hm hb .nil pass0 pa_star hdb he hpl) (ha B0 B σ H0 H _ j fun vs G0 G g r => ?_)
  intro x dx hx hdx hne
  rw [List.append_nil]
  have g0x : G0 x = none := g.sh.free hx
  have g0d : G0 dx = none := g.sh.free hdx
  have s1 : Same G0 (upd (upd G dx (.own x)) x (.ins C dx [])) := fun b u q => by
    rw [upd_ne (ne_of_none q g0x), upd_ne (ne_of_none q g0d)]
    exact g.sh b u q
  have sE : ∀ b u, G b = some u → er (upd (upd G dx (.own x)) x (.ins C dx [])) x b = some u := fun b u q => by
    have n1 := ne_of_none q hx
    rw [er_ne n1, upd_ne n1, upd_ne (ne_of_none q hdx)]
    exact q
  refine ⟨G0, x, C, dx, ds, ns, zs, vs, rfl, hC, s1, upd_same, g0x, r, hR, fun L0 L o gg e1 e2 e3 => ⟨rfl, ?_⟩⟩
  exact kk x o L0 L (g.trans ⟨gg.s0, gg.sh, fun b u q => gg.sB b u (sE b u q), fun b u q nt q' => gg.fr b u (sE b u q) nt q'⟩) e1 e2 (g.sB.free hx) e3
/-! ### methods of what is shared -/
structure FnM (P : Program) (w : World) (K : PySem.W.Frag) (mg : Str → Option Value) (base : Heap) (cn m : Str) (k : Nat) (R : List D → D → Prop) : Prop where
  ex : ∃ C f fd ps, PySem.W.nsIn K mainGlobals cn = some (some (.ref C)) ∧ Cls K C ∧ Meth K C m f ∧ FnOk P w K mg base CX0 k f fd ps (spR K R) ∧ Binds K fd ps []
theorem ed_meth {X : Cx} {ρ : En} {o e : Expr} {pos apos : Pos} {cn m : Str} {k : Nat} {R : List D → D → Prop} {es : List Expr} {ds fds : List D} {ns : List Str} {d : D} {pl : Sem Bool} (G : FnM X.prog X.w X.K X.mg X.base cn m k R) (hr : Room k X.A) (ho : ED X ρ o (.obj cn ns fds)) (ha : AD X ρ (e :: es) ds) (hR : R (.obj cn ns fds :: ds) d)
    (hm : ns.contains m = false := by decide +kernel)
    (hst : starEach (e :: es) X.env = (false, eval e X.env) :: starEach es X.env := by rfl) (hpl : (backTo pos (starEach es X.env)).any (·.1) = false := by rfl)
    (ht : eval (.Call (.Attribute o m apos) (e :: es) [] pos) X.env = (do
      let ov ← eval o X.env
      standAt apos.atName
      let (f, first) ← holding [ov] (getMethod ov m pl)
      callWith pos f first (backTo pos (starEach (e :: es) X.env)) (backToKw pos (keywordEach [] X.env))) := by rfl) :
    ED X ρ (.Call (.Attribute o m apos) (e :: es) [] pos) d := fun B0 B σ H0 H Q j kk => by
  obtain ⟨C, f, fd, ps, hC, hc, hmt, F, hb⟩ := G.ex
  refine RE.of (pe_meth (E := E0) pe_star hc hmt F hr hb .nil pass0 pa_star hst hpl ht) (ho B0 B σ H0 H _ j fun v G0 G g r => ?_)
  obtain ⟨a, C', dx, vs, rfl, hC', hA, hlen, hvs⟩ := id r
  rw [hC] at hC'; cases hC'
  refine ⟨a, dx, _, rfl, g.sh _ _ hA, zip_none hm, ha B0 B σ G0 G _ (j.grow g) fun ws L0 L g2 r2 => ?_⟩
  rw [List.append_nil]
  exact ⟨L0, .obj cn ns fds :: ds, d, g2.sh, ⟨_, _, rfl, DR.mono g2.s0 _ _ r, r2⟩, hR, fun v M0 M g3 r3 => kk v M0 M ((g.trans g2).trans g3) r3⟩
theorem ed_meth0 {X : Cx} {ρ : En} {o : Expr} {pos apos : Pos} {cn m : Str} {k : Nat} {R : List D → D → Prop} {fds : List D} {ns : List Str} {d : D} {pl : Sem Bool} (G : FnM X.prog X.w X.K X.mg X.base cn m k R) (hr : Room k X.A) (ho : ED X ρ o (.obj cn ns fds)) (hR : R [.obj cn ns fds] d)
    (hm : ns.contains m = false := by decide +kernel)
    (ht : eval (.Call (.Attribute o m apos) [] [] pos) X.env = (do
      let ov ← eval o X.env
      standAt apos.atName
      let (f, first) ← holding [ov] (getMethod ov m pl)
      callWith pos f first (backTo pos (starEach [] X.env)) (backToKw pos (keywordEach [] X.env))) := by rfl) :
    ED X ρ (.Call (.Attribute o m apos) [] [] pos) d := fun B0 B σ H0 H Q j kk => by
  obtain ⟨C, f, fd, ps, hC, hc, hmt, F, hb⟩ := G.ex
  refine RE.of (pe_meth0 (E := E0) pe_star hc hmt F hr hb .nil pass0 ht) (ho B0 B σ H0 H _ j fun v G0 G g r => ?_)
  obtain ⟨a, C', dx, vs, rfl, hC', hA, hlen, hvs⟩ := id r
  rw [hC] at hC'; cases hC'
  refine ⟨a, dx, _, rfl, g.sh _ _ hA, zip_none hm, ?_⟩
  exact ⟨G0, [.obj cn ns fds], d, g.sh, ⟨_, _, rfl, r, rfl⟩, hR, fun v M0 M g3 r3 => kk v M0 M (g.trans g3) r3⟩
end
end DL

/-! Sets of ints and texts out of lists: how many. -/
namespace DL
open PySem PySem.Spec PyProof.Rows L2
local instance (priority := 2000) keyBEq : BEq Key := instBEqOfDecidableEq
/-- the keys, each once -/
def stepK (σ : List Key) (v : Key) : List Key := if v ∈ σ then σ else σ ++ [v]
def ddK (ks : List Key) : List Key := ks.foldl stepK []
theorem ddK_snoc (ks : List Key) (v : Key) : ddK (ks ++ [v]) = stepK (ddK ks) v := by
  unfold ddK; rw [List.foldl_append]; rfl
theorem snoc_ind {α : Type} {P : List α → Prop} (h0 : P []) (hs : ∀ l x, P l → P (l ++ [x])) : ∀ l, P l := fun l => by
  have : ∀ n, ∀ l : List α, l.length = n → P l := fun n => by
    induction n with
    | zero => intro l hl; rw [List.length_eq_zero_iff.mp hl]; exact h0
    | succ n ih =>
      intro l hl
      have hne : l ≠ [] := fun e => by rw [e] at hl; cases hl
      rw [← List.dropLast_concat_getLast hne]
      exact hs _ _ (ih _ (by rw [List.length_dropLast, hl]; rfl))
  exact this _ l rfl
theorem mem_ddK (k : Key) : ∀ ks : List Key, k ∈ ddK ks ↔ k ∈ ks := by
  refine snoc_ind (by simp [ddK]) fun ks v ih => ?_
  rw [ddK_snoc, List.mem_append]
  unfold stepK
  split
  · rename_i h
    rw [ih]
    constructor
    · exact .inl
    · rintro (h1 | h1)
      · exact h1
      · rw [List.mem_singleton] at h1; subst h1; exact ih.mp h
  · rw [List.mem_append, ih]
theorem ddK_len : ∀ ks : List Key, (ddK ks).length ≤ ks.length := by
  refine snoc_ind (by simp [ddK]) fun ks v ih => ?_
  rw [ddK_snoc, List.length_append]
  unfold stepK
  split
  · omega
  · rw [List.length_append]; simp only [List.length_cons, List.length_nil]; omega
theorem ddK_nodup : ∀ ks : List Key, ks.Nodup → (ddK ks).length = ks.length := by
  refine snoc_ind (by simp [ddK]) fun ks v ih h => ?_
  rw [List.nodup_append] at h
  rw [ddK_snoc, List.length_append]
  unfold stepK
  rw [if_neg, List.length_append, ih h.1]
  intro hv
  exact h.2.2 v ((mem_ddK v ks).mp hv) v (by simp) rfl
theorem ddK_lt : ∀ ks : List Key, ¬ ks.Nodup → (ddK ks).length < ks.length := by
  refine snoc_ind (fun h => absurd List.nodup_nil h) fun ks v ih h => ?_
  rw [ddK_snoc, List.length_append]
  unfold stepK
  have hl := ddK_len ks
  split
  · simp only [List.length_cons, List.length_nil]; omega
  · rename_i hv
    rw [List.length_append]
    have hn : ¬ ks.Nodup := fun hn => h (List.nodup_append.mpr ⟨hn, by simp, fun a ha b hb e => by
      rw [List.mem_singleton] at hb
      subst hb; subst e
      exact hv ((mem_ddK _ _).mpr ha)⟩)
    have := ih hn
    simp only [List.length_cons, List.length_nil]; omega

section
variable {P : Program} {w : World} {A : Around} {E : Value → Shared → Prop} {s : Shared}
theorem set_update_keys {I : Addr} {fp wr : List Addr} {G : Array GenState → Array GenState → Prop} {n : Nat} {Pv : Nat → Value → Prop} {St : Nat → Shared → Prop} {R : Result → Shared → Prop}
    (W : WalksS P w A.in1 I fp wr G n Pv St) (S : Addr) (hSf : S ∉ fp) (ks : List Key) (hn : n = ks.length) (hb : ks.length + 1 < scanBound) (hval : ∀ i v, Pv i v → ∃ k, ks[i]? = some k ∧ (mixKind P w).is k v = true ∧ v.scannable = true) :
    ∀ (k i : Nat) (s : Shared), n - i = k → i ≤ n → St i s → s.heap.SetOf (mixKind P w) S (fun j => decide (j ∈ ks.take i)) (ddK (ks.take i)).length →
      (∀ s', Moved (S :: wr) G s s' → s'.heap.SetOf (mixKind P w) S (fun j => decide (j ∈ ks)) (ddK ks).length → R (.ok (.ret .none)) s') →
      codeAny (model P w) A (.builtin "set.update.loop" ⟨[.ref S, .ref I], []⟩) R s := by
  have hSw : S ∉ wr := fun h => hSf (W.sub _ h)
  have hsub : ∀ b ∈ wr, b ∈ S :: wr := fun b hb => List.mem_cons_of_mem _ hb
  intro k
  induction k with
  | zero =>
    intro i s hk' hi hst hS hR
    have hin : i = n := by omega
    subst hin
    refine codeAny_builtin F.entry_set_update_loop ?_
    rw [Around.under_plainId F.plain_set_update_loop _]
    show wpAny _ A.in1 (pyNext (.ref I) >>= _) _ _ s
    refine wpAny_bind (W.done s _ _ hst fun s' hm => ?_)
    show wpAny _ A.in1 (ret Value.none) _ _ s'
    have e : ks.take i = ks := List.take_of_length_le (by omega)
    rw [e] at hS
    exact wpAny_pure (hR s' (hm.mono hsub) (setOf_at hS fun o e => hm.heap S o hSw e))
  | succ k ih =>
    intro i s hk' hi hst hS hR
    have hlt : i < n := by omega
    refine codeAny_builtin F.entry_set_update_loop ?_
    rw [Around.under_plainId F.plain_set_update_loop _]
    show wpAny _ A.in1 (pyNext (.ref I) >>= _) _ _ s
    refine wpAny_bind (W.item i s _ _ hlt hst fun v s' hP hst' hm => ?_)
    obtain ⟨z, hz, hkey, hsc⟩ := hval i v hP
    have hS' : s'.heap.SetOf (mixKind P w) S (fun j => decide (j ∈ ks.take i)) (ddK (ks.take i)).length := setOf_at hS fun o e => hm.heap S o hSw e
    show wpAny _ A.in1 (holding [v] (setAdd S v) >>= _) _ _ s'
    refine wpAny_bind (wpAny_holding ?_)
    unfold setAdd
    refine wpAny_holding ?_
    refine wpAny_bind ((mixKind P w).pyHash (k := z) hkey ?_)
    have hroom : (ddK (ks.take i)).length + 1 < scanBound := by
      have h1 := ddK_len (ks.take i)
      rw [List.length_take] at h1
      omega
    refine wpAny_setAddHashed_of (s := { s' with toks := s'.toks + 1 }) hkey hsc hS' hroom fun h' hsb hS2 => ?_
    have et : ks.take (i + 1) = ks.take i ++ [z] := by rw [List.take_add_one, hz]; rfl
    have hS3 : h'.SetOf (mixKind P w) S (fun j => decide (j ∈ ks.take (i + 1))) (ddK (ks.take (i + 1))).length := by
      refine SetOf_congr hS2 (fun j => ?_) ?_
      · rw [et]
        simp [List.mem_append]
      · rw [et, ddK_snoc]
        unfold stepK
        by_cases hm : z ∈ ks.take i
        · rw [if_pos (decide_eq_true hm), if_pos ((mem_ddK _ _).mpr hm)]
        · rw [if_neg (by simpa using hm), if_neg (fun q => hm ((mem_ddK _ _).mp q)), List.length_append]; rfl
    refine wpAny_pure ⟨plainId_quiet F.plain_set_update_loop _, ih (i + 1) _ (by omega) hlt (W.frame _ s' _ _ hst' (Nat.le_succ _) fun b hb o e => ?_) hS3 fun s'' hm'' hS'' => ?_⟩
    · rw [hsb.2 b (fun h : b = S => hSf (by rw [← h]; exact hb))]; exact e
    · refine hR s'' (Moved.trans W.gtrans ((hm.mono hsub).then_heap (Nat.le_succ _) fun b o hb e => ?_) hm'') hS''
      rw [hsb.2 b (fun h : b = S => hb (by rw [h]; exact List.mem_cons_self))]; exact e
/-- the values are the keys -/
def KeysAre (P : Program) (w : World) (us : List Value) (ks : List Key) : Prop := us.length = ks.length ∧ ∀ (i : Nat) u, us[i]? = some u → ∃ k, ks[i]? = some k ∧ (mixKind P w).is k u = true ∧ u.scannable = true
theorem set_of_keys {p : Addr} {its : Array Value} (ks : List Key) {Q : Value → Shared → Prop} (quiet : A.handled = none) (isl : s.heap.IsList p its) (hks : KeysAre P w its.toList ks) (few : ks.length + 1 < scanBound)
    (fin : ∀ (g : Heap) (tk : Nat), g.SetOf (mixKind P w) s.heap.objs.size (fun j => decide (j ∈ ks)) (ddK ks).length → (∀ b o, s.heap.get? b = some o → g.get? b = some o) → Q (.ref s.heap.objs.size) { s with heap := g, toks := tk }) : wpAny (model P w) A (call (.type "set") [.ref p]) Q E s := by
  have size : its.size = ks.length := by rw [← hks.1, Array.length_toList]
  have f1 := F.called_set.made
  have f2 := F.called_set.sub
  have f3 := F.called_set.notType
  have f4 := F.called_set.canCreate
  have f5 := F.typeCall_set_1 (.ref p)
  obtain ⟨_, _, f6⟩ := F.called_set.mro
  refine wpAny_call (codeAny_of_tree (?_ : wpAny _ _ (callAny (.type "set") _) _ _ _))
  refine wpAny_pure ⟨Code.quiet_builtin _ (by decide +kernel), codeAny_builtin F.entry_type_call ?_⟩
  rw [Around.under_plain (weight_type_call_type "set" [.ref p] []) rfl]
  repeat (any_goals (first | assumption | wp_step))
  refine codeAny_mono (code_set_led1 (.ref p) (E := E) (Q₁ := fun v t => v = .ref s.heap.objs.size ∧ t = { s with heap := s.heap.push (nSet w) }) ⟨rfl, rfl⟩) fun r1 t1 e1 => ?_
  rcases r1 with r1 | r1
  · exact e1
  cases r1 with
  | ret v =>
    obtain ⟨rfl, rfl⟩ := e1
    have at0 : (s.heap.push (nSet w)).get? s.heap.objs.size = some (nSet w) := Heap.get?_push_size _ rfl
    have ty : Shared.TypeIs { s with heap := s.heap.push (nSet w) } (.ref s.heap.objs.size) "set" := ⟨_, at0, rfl⟩
    have f7 := F.called_set.init.lookup
    have f8 := F.called_set.init.bind (.ref s.heap.objs.size)
    repeat (any_goals (first | assumption | wp_step))
    refine codeAny_mono (codeAny_call_builtin (R := wants (fun v t => v = .none ∧ ∃ g tk, t = { s with heap := g, toks := tk } ∧ g.SetOf (mixKind P w) s.heap.objs.size (fun j => decide (j ∈ ks)) (ddK ks).length ∧ ∀ b o, s.heap.get? b = some o → g.get? b = some o) E) F.called_set.init.plain F.entry_set_init (check_set_init_1 ty ?_)) fun r2 t2 e2 => ?_
    · obtain ⟨⟨c0, d0, dat, sl⟩, ho, hc, n0, hd⟩ := isl
      simp only at hc hd
      subst hc hd
      have there : (s.heap.push (nSet w)).get? p = some { cls := .type "list", dict := d0, data := .seq its n0, slots := sl } := Heap.get?_push_of_some _ ho
      have g1 := F.sub_list_set
      have g2 := F.sub_list_frozenset
      have g3 : (Value.type "list" == Value.type "dict") = false := by decide
      have isl2 : (s.heap.push (nSet w)).IsList p its := ⟨_, there, rfl, n0, rfl⟩
      unfold Builtin.«set.__init__» noKeywords Builtin.Frozenset.updateFrom
      generalize hI : pyIter = IT
      wp_walk
      subst hI
      refine wpAny_pyIter_list isl2 (wpAny_bind (wpAny_runValue ?_))
      have old : p < s.heap.objs.size := Heap.lt_size ho
      have it0 : (s.heap.push (nSet w)).objs.size = s.heap.objs.size + 1 := Heap.size_push ..
      have quiet3 : A.in1.in1.in1.handled = none := by simp [quiet]
      have apart : p ≠ (s.heap.push (nSet w)).objs.size := fun e => Nat.ne_of_lt (Nat.lt_succ_of_lt old) (e.trans it0)
      have outside : s.heap.objs.size ∉ [(s.heap.push (nSet w)).objs.size, p] := by
        intro z
        simp only [List.mem_cons, List.not_mem_nil, or_false] at z
        rcases z with z | z
        · exact Nat.ne_of_lt (Nat.lt_succ_self _) (z.trans it0)
        · exact Nat.ne_of_gt old z
      have new : ((s.heap.push (nSet w)).push { cls := .type "list_iterator", data := .fields #[.ref p, .int 0 0] }).SetOf (mixKind P w) s.heap.objs.size (fun j => decide (j ∈ ks.take 0)) (ddK (ks.take 0)).length :=
        ⟨_, #[], 0, _, Heap.get?_push_of_some _ at0, ⟨rfl, rfl, rfl⟩, rfl, (fun e he => by simp at he), (fun k => by simp), (by decide), (by rfl), rfl⟩
      refine set_update_keys ((Walks.list quiet3 _ p apart its).toS) s.heap.objs.size outside ks size few (fun i v hv => ?_) (its.size - 0) 0 _ (by omega) (Nat.zero_le _) ⟨⟨_, Heap.get?_push_size _ rfl, rfl, rfl⟩, isl2.push _⟩ new fun t3 mv fin3 => ?_
      · exact hks.2 i v (by rw [Array.getElem?_toList]; exact hv)
      · obtain ⟨g, gs, dr, tk, os⟩ := t3
        obtain rfl : gs = s.gens := mv.gens
        obtain rfl : dr = s.drawn := mv.drawn
        obtain rfl : os = s.os := mv.os
        show wpAny _ _ _ _ _ _
        refine wpAny_pure (?_ : wpAny _ _ (ret Value.none) _ _ _)
        refine wpAny_pure ⟨rfl, g, tk, rfl, fin3, fun b o e => mv.heap b o (fun z => ?_) (Heap.get?_push_of_some _ (Heap.get?_push_of_some _ e))⟩
        have hb := Heap.lt_size e
        simp only [List.mem_cons, List.not_mem_nil, or_false] at z
        rcases z with z | z
        · exact Nat.ne_of_lt hb z
        · exact Nat.ne_of_lt (Nat.lt_succ_of_lt hb) (z.trans it0)
    · rcases r2 with r2 | r2
      · exact e2
      cases r2 with
      | ret v =>
        obtain ⟨rfl, g, tk, rfl, h1, h3⟩ := e2
        repeat (any_goals (first | assumption | wp_step))
        exact fin _ _ h1 h3
      | _ => exact e2.elim
  | _ => exact e1.elim
end
theorem keys_are {P : Program} {w : World} : ∀ {ks : List Key} {us : List Value}, Vals (ks.map kV) us → KeysAre P w us ks
  | [], us, r => by cases r; exact ⟨rfl, fun i u h => by simp at h⟩
  | k :: ks, us, r => by
    cases r with
    | cons r1 r2 =>
      have ih := keys_are (P := P) (w := w) r2
      refine ⟨by simp [ih.1], fun i u h => ?_⟩
      cases i with
      | zero =>
        simp only [List.getElem?_cons_zero, Option.some.injEq] at h ⊢
        subst h
        exact ⟨k, rfl, kV_is r1, key_scan r1⟩
      | succ i =>
        simp only [List.getElem?_cons_succ] at h ⊢
        exact ih.2 i u h
/-- an int, a text as a key -/
def kD : Key → D
  | .inl i => .int i
  | .inr x => .str x
theorem kD_val {K : PySem.W.Frag} {H : Hp} {k : Key} {v : V} (h : DR K H (kD k) v) : v = kV k := by
  cases k with
  | inl i => exact h
  | inr x => exact h
theorem kDs_val {K : PySem.W.Frag} {H : Hp} : ∀ {ks : List Key} {vs : List V}, DRs K H (ks.map kD) vs → vs = ks.map kV
  | [], vs, h => h
  | k :: ks, vs, h => by
    obtain ⟨v, r, rfl, h2, h3⟩ := h
    rw [kD_val h2, kDs_val h3]; rfl
section
variable {X : Cx} {ρ : En} {pos : Pos}
theorem call_setK (hc : X.calm = true) : CallR X (.type "set") (fun vs H Q => ∃ (l : Addr) (ks : List Key), vs = [.ref l] ∧ SqL X.K H l (ks.map kV) ∧ ks.length + 1 < scanBound ∧ ∀ p, H p = none → Q (.ref p) (upd H p (SetK X.prog X.w p (fun j => decide (j ∈ ks)) (ddK ks).length))) := by
  intro pins s σ H vs us Q I r h
  obtain ⟨l, ks, rfl, hs, few, q⟩ := h
  rw [Vals.ref1 r]
  obtain ⟨its, rv, pl, hz⟩ := I.list hs
  refine set_of_keys ks (I.ok.hd hc) pl.isList (by simpa using keys_are rv) few fun g tk hS hk => ?_
  exact ⟨.ref _, _, I.laid (t' := tk) hk (Nat.le_refl _) (setK_new hS), rfl, q _ (I.hok.fresh (Nat.le_refl _))⟩
theorem call_lenK : CallR X (.builtin "len") (fun vs H Q => ∃ (a : Addr) (S : Key → Bool) (n : Nat), vs = [.ref a] ∧ H a = some (SetK X.prog X.w a S n) ∧ Q (.int (n : Nat)) H) := by
  intro pins s σ H vs us Q I r h
  obtain ⟨a, S, n, rfl, ha, q⟩ := h
  rw [Vals.ref1 r]
  obtain ⟨o, es, ep, t, ho, hex, hd, _, _, hb, hf, hn⟩ := setK_get I ha
  refine call_len_set ho hex hd hf (by unfold scanBound at hb; omega) ⟨.int (n : Nat), H, I.tok _, ⟨_, by rw [hn]⟩, q⟩
/-- len(set(e)) -/
theorem ed_lenSetK {e : Expr} {ks : List Key} {p1 p2 q : Pos} (hc : X.calm = true) (hs : Gl X "len") (hms : X.mg "len" = none) (ht : Gl X "set") (hmt : X.mg "set" = none) (he : ED X ρ e (.lst (ks.map kD))) (few : ks.length + 1 < 4096)
    (h1 : starEach [e] X.env = (false, eval e X.env) :: starEach [] X.env := by rfl) (h2 : (backTo q (starEach [] X.env)).any (·.1) = false := by rfl)
    (h3 : starEach [.Call (.Name "set" p2) [e] [] q] X.env = (false, eval (.Call (.Name "set" p2) [e] [] q) X.env) :: starEach [] X.env := by rfl) (h4 : (backTo pos (starEach [] X.env)).any (·.1) = false := by rfl) :
    ED X ρ (.Call (.Name "len" p1) [.Call (.Name "set" p2) [e] [] q] [] pos) (.int ((ddK ks).length : Nat)) := fun B0 B σ H0 H Q j k => by
  refine RE.of (pe_callB call_lenK hs hms bb_len (pa_cons (pe_callTy (call_setK hc) ht hmt bb_set (pa_cons pe_star pa_nil h1) (by decide) (by decide) h1 h2) pa_nil h3) (by decide) (by decide) h3 h4) ?_
  refine he B0 B σ H0 H _ j fun v G0 G g r => ?_
  obtain ⟨l, vs, rfl, hS, rr⟩ := r
  rw [kDs_val rr] at hS
  refine ⟨l, ks, rfl, g.sh.seq hS, few, fun p hp => ?_⟩
  exact ⟨p, _, _, rfl, upd_same, k _ G0 _ (g.trans (JH.own g.sh hp)) rfl⟩
end
end DL

/-! sorted of data that can be compared; dict of pairs; texts: compared, cut, walked; str of an int. -/
namespace DL
open PySem PySem.Spec PyProof.Rows L2
open PySem.W (EachIs AllAlike Sortable KeepsBut SortsAt KeyedOut dataLe dataKind alike sortingHeap sortingHeap_old)
section
variable {X : Cx} {ρ : En} {pos : Pos} {β : Type} {bs : List β} {enc : β → D}
/-- sorted(xs) -/
theorem call_sortedD (ok : KeyOk X.A enc bs) : CallR X (.builtin "sorted") (fun vs H Q => ∃ (l : Addr) (xs : List V) (H0 : Hp), vs = [.ref l] ∧ (SqL X.K H l xs ∨ SqT X.K H l xs) ∧ Same H0 H ∧ DRs X.K H0 (bs.map enc) xs ∧
    ∀ p ys, H p = none → DRs X.K H0 ((srtK enc bs).map enc) ys → Q (.ref p) (upd H p (.lst ys))) := by
  intro pins s σ H vs us Q I rv h
  obtain ⟨l, xs, H0, rfl, hs, s0, hd, q⟩ := h
  rw [Vals.ref1 rv]
  obtain ⟨its, T, o, n, hT, rvs, ho, hc, hdat, hz⟩ : ∃ (its : List Value) (T : String) (o : Obj) (n : Nat), (T = "list" ∨ T = "tuple") ∧ Vals xs its ∧ s.heap.get? l = some o ∧ o.cls = .type T ∧ o.data = .seq its.toArray n ∧ its.length ≤ sizeLine := by
    rcases hs with hs | hs
    · obtain ⟨its, r, ⟨o, n, e1, e2, _, e3⟩, z⟩ := I.list hs
      exact ⟨its, "list", o, n, .inl rfl, r, e1, e2, e3, by rw [← r.length]; exact z⟩
    · obtain ⟨its, r, ⟨o, e1, e2, n, e3⟩, z⟩ := I.tuple hs
      exact ⟨its, "tuple", o, n, .inr rfl, r, e1, e2, e3, by rw [← r.length]; exact z⟩
  have hv : All2 (fun u b => VD X.K H0 u (enc b)) its bs := by
    have : ∀ {us : List Value} {cs : List β} {ws : List V}, DRs X.K H0 (cs.map enc) ws → Vals ws us → All2 (fun u b => VD X.K H0 u (enc b)) us cs := by
      intro us cs
      induction cs generalizing us with
      | nil => intro ws h r; cases (show ws = [] from h); cases r; exact .nil
      | cons c cs ih =>
        intro ws h r
        obtain ⟨v, w, rfl, h1, h2⟩ := h
        cases r with
        | cons r1 r2 => exact .cons ⟨v, r1, h1⟩ (ih h2 r2)
    exact this hd rvs
  have hlen : its.length = bs.length := hv.len
  refine Calls.call_function_entry PyProof.Rows.kind_sorted PyProof.Rows.plain_sorted PyProof.Rows.entry_sorted (PyProof.Rows.args_sorted1 _) ?_
  unfold Builtin.«sorted»
  refine wpAny_bind (m := checkCount "sorted" 1 1 _) (wpAny_pure ?_)
  refine wpAny_bind (wpAny_collect_seq l hT ho hc hdat (fun h1 hk1 => ?_) (by rw [List.size_toArray]; exact hz))
  rw [List.toList_toArray]
  refine wpAny_bind (wpAny_newList ?_ hz)
  have I1 : Inv X pins σ H { s with heap := h1 } := I.kept hk1
  have at1 : (h1.push (seqObj "list" its.toArray 0)).get? h1.objs.size = some (seqObj "list" its.toArray 0) := Heap.get?_push_size _ rfl
  have kp : ∀ b o, h1.get? b = some o → (sortingHeap (h1.push (seqObj "list" its.toArray 0)) h1.objs.size its).get? b = some o := fun b o e =>
    sortingHeap_old (Nat.ne_of_lt (Heap.lt_size e)) (Heap.get?_push_of_some _ e)
  have er : EachIs (fun v b => ∃ as, Reads (sortingHeap (h1.push (seqObj "list" its.toArray 0)) h1.objs.size its) v (enc b).py as) its bs := by
    have : ∀ {us : List Value} {cs : List β}, All2 (fun u b => VD X.K H0 u (enc b)) us cs → (∀ b ∈ cs, b ∈ bs) → All2 (fun v b => ∃ as, Reads (sortingHeap (h1.push (seqObj "list" its.toArray 0)) h1.objs.size its) v (enc b).py as) us cs := by
      intro us cs h
      induction h with
      | nil => intro _; exact .nil
      | cons h t ih =>
        intro m
        obtain ⟨as, hr⟩ := reads_vd I1 s0 (ok.plain _ (m _ (by simp))) h
        exact .cons ⟨as, PyProof.Rows.Reads.keeps kp hr⟩ (ih fun b hb => m b (by simp [hb]))
    exact each_all2 (this hv fun b hb => hb)
  have er2 : EachIs (fun v d => ∃ as, Reads (sortingHeap (h1.push (seqObj "list" its.toArray 0)) h1.objs.size its) v d as) its (bs.map fun b => (enc b).py) := by
    have : ∀ {us : List Value} {cs : List β}, EachIs (fun v b => ∃ as, Reads (sortingHeap (h1.push (seqObj "list" its.toArray 0)) h1.objs.size its) v (enc b).py as) us cs → EachIs (fun v d => ∃ as, Reads (sortingHeap (h1.push (seqObj "list" its.toArray 0)) h1.objs.size its) v d as) us (cs.map fun b => (enc b).py) := by
      intro us cs h
      induction h with
      | nil => exact .nil
      | cons h t ih => exact .cons h ih
    exact this er
  have hu : ∀ d ∈ bs.map fun b => (enc b).py, X.A.in1.in1.units + d.depth < cLine := fun d hd => by
    obtain ⟨b, hb, rfl⟩ := List.mem_map.mp hd
    exact ok.deep b hb
  have S := SortsAt.data (prog := X.prog) (w := X.w) (A := X.A.in1.in1) (s := { s with heap := sortingHeap (h1.push (seqObj "list" its.toArray 0)) h1.objs.size its }) er2 ok.alike ok.sort hu
  have hout : EachIs (fun u b => VD X.K H0 u (enc b)) (PySem.W.sortVals (dataKind (sortingHeap (h1.push (seqObj "list" its.toArray 0)) h1.objs.size its) (bs.map fun b => (enc b).py)) false its its) (bs.mergeSort (dataLe false fun b => (enc b).py)) :=
    PySem.W.sortVals_data false (each_all2 hv) er ok.alike
  have hol : (PySem.W.sortVals (dataKind (sortingHeap (h1.push (seqObj "list" its.toArray 0)) h1.objs.size its) (bs.map fun b => (enc b).py)) false its its).length = its.length := PySem.W.sortVals_length false rfl
  refine wpAny_bind (wpAny_holding (wpAny_call_entry PyProof.Rows.slot_list_sort ⟨_, at1, rfl⟩ PyProof.Rows.entry_list_sort
    (PySem.W.list_sort_vals (κ := dataKind (sortingHeap (h1.push (seqObj "list" its.toArray 0)) h1.objs.size its) (bs.map fun b => (enc b).py)) at1 S hz ⟨_, rfl, ?_⟩) (PyProof.Rows.args_list_sort _)))
  generalize PySem.W.sortVals (dataKind (sortingHeap (h1.push (seqObj "list" its.toArray 0)) h1.objs.size its) (bs.map fun b => (enc b).py)) false its its = out at hout hol
  obtain ⟨ep2, he2⟩ := PyProof.Rows.sortedHeap_at (vs := its) (out := out.toArray) at1
  have hmap : ∀ {us : List Value} {cs : List β}, EachIs (fun u b => VD X.K H0 u (enc b)) us cs → All2 (VD X.K H0) us (cs.map enc) := by
    intro us cs h
    induction h with
    | nil => exact .nil
    | cons h t ih => exact .cons h ih
  obtain ⟨ys, q1, q2⟩ := vd_to (hmap hout)
  refine wpAny_pure ⟨_, rfl, .ref h1.objs.size, upd H h1.objs.size (.lst ys), I1.laid (t' := s.toks) (fun b u e => ?_) (Nat.le_refl _) ⟨by rw [q1.length, hol]; exact hz, out, ep2, q1, he2⟩, rfl, q _ _ (I1.hok.fresh (Nat.le_refl _)) q2⟩
  have hlt := Heap.lt_size e
  rw [PyProof.Rows.sortedHeap_old (Nat.ne_of_lt hlt) (by rw [size_push']; exact Nat.lt_succ_of_lt hlt)]
  exact Heap.get?_push_of_some _ e
theorem eo_sortedD {e : Expr} {p : Pos} {d : D} (hs : Gl X "sorted") (hms : X.mg "sorted" = none) (hd : SeqD d (bs.map enc)) (he : ED X ρ e d) (ok : KeyOk X.A enc bs)
    (h3 : starEach [e] X.env = (false, eval e X.env) :: starEach [] X.env := by rfl) (h4 : (backTo pos (starEach [] X.env)).any (·.1) = false := by rfl) :
    EO X ρ (.Call (.Name "sorted" p) [e] [] pos) (.lst ((srtK enc bs).map enc)) := fun B0 B σ H0 H Q j kk => by
  refine RE.of (pe_callB (call_sortedD ok) hs hms bb_sorted (pa_cons pe_star pa_nil h3) (by decide) (by decide) h3 h4) ?_
  refine he B0 B σ H0 H _ j fun v G0 G g r => ?_
  have fin : ∀ p ys, G p = none → DRs X.K G0 ((srtK enc bs).map enc) ys → Q (.ref p) (upd G p (.lst ys)) := fun p ys hp rr =>
    kk p _ G0 _ (g.trans (JH.own g.sh hp)) upd_same (g.sh.free hp) (g.sB.free hp) ⟨ys, rfl, rr⟩
  cases hd with
  | lst =>
    obtain ⟨a, ys, rfl, h1, h2⟩ := r
    exact ⟨a, ys, G0, rfl, .inl (g.sh.seq h1), g.sh, h2, fin⟩
  | tup =>
    obtain ⟨a, ys, rfl, h1, h2⟩ := r
    exact ⟨a, ys, G0, rfl, .inr (Same.seqT g.sh h1), g.sh, h2, fin⟩
/-! ### texts -/
theorem c2_leS {i j : Str} : C2 X .LtE (.str i) (.str j) (.bl (!decide (j.cps.toList < i.cps.toList))) := ⟨_, op_le_str, fun H0 H x y Q s r1 r2 k => by
  cases (show x = .str i from r1); cases (show y = .str j from r2)
  exact ⟨i, j, rfl, rfl, k _ H0 H (JH.refl s) rfl⟩⟩
theorem bc_strI {i : Int} (h : i.natAbs.log2 < 1920) : BC X (.type "str") [.int i] (.str (toString i)) := bc_keep call_str_int _ (fun _ => rfl) fun _ _ vs _ _ r q => by
  obtain ⟨x, rfl, h1⟩ := r.one'
  cases (show x = .int i from h1)
  exact ⟨i, rfl, h, q⟩
/-- the signs of a text, each a text -/
def sgn (c : Nat) : Str := ⟨#[c]⟩
theorem id_str {tg e : Expr} {z : Str} (h : ED X ρ e (.str z)) : ID X ρ tg e (z.cps.toList.map fun c => .str (sgn c)) := fun B0 B σ H0 H R j k =>
  ⟨_, pi_str pe_star, h B0 B σ H0 H _ j fun v G0 G g r => ⟨z, r, k _ G0 G g ⟨_, _, (by rw [List.length_map, Array.length_toList]; exact walk_str (z := z)), fun _ _ _ _ => trivial, fun i H1 H x H' d hd s1 s2 y => by
    obtain ⟨rfl, c, hc, rfl⟩ := y
    rw [List.getElem?_map, Array.getElem?_toList, hc] at hd
    cases hd
    exact ⟨H1, JH.refl s2, rfl⟩⟩⟩⟩
/-- e in xs, flat data -/
def flatD : D → Bool
  | .non | .bl _ | .int _ | .str _ => true
  | _ => false
theorem c2_inStr {x : Str} {ys : List Str} {d : D} (hd : SeqD d (ys.map D.str)) : C2 X .In (.str x) d (.bl (decide (x ∈ ys))) := ⟨_, op_in_seq, fun H0 H u v Q s r1 r2 k => by
  cases (show u = .str x from r1)
  have hf : (ys.map V.str).all flatV = true := by simp [flatV]
  have hi : inV (.str x) (ys.map V.str) = decide (x ∈ ys) := by
    unfold inV
    rw [Bool.eq_iff_iff]
    simp only [List.any_eq_true, List.mem_map, decide_eq_true_eq]
    constructor
    · rintro ⟨v, ⟨y, hy, rfl⟩, h⟩
      have : y = x := by simpa [eqV] using h
      exact this ▸ hy
    · intro h
      exact ⟨.str x, ⟨x, h, rfl⟩, by simp [eqV]⟩
  have fin : Q (.bl (if false = true then !inV (.str x) (ys.map V.str) else inV (.str x) (ys.map V.str))) H := by
    rw [hi]; exact k _ H0 H (JH.refl s) rfl
  cases hd with
  | lst =>
    obtain ⟨a, vs, rfl, h1, h2⟩ := r2
    rw [DRs.strs h2] at h1
    exact ⟨a, _, rfl, .inl (s.seq h1), rfl, hf, fin⟩
  | tup =>
    obtain ⟨a, vs, rfl, h1, h2⟩ := r2
    rw [DRs.strs h2] at h1
    exact ⟨a, _, rfl, .inr (Same.seqT s h1), rfl, hf, fin⟩⟩
end
end DL

/-! tuple(xs) that has no dict; dict(t) of a tuple of pairs. -/
namespace DL
open PySem PySem.Spec PyProof.Rows L2
section
variable {X : Cx} {ρ : En} {pos : Pos}
theorem ptp_tup {K : PySem.W.Frag} {H : Hp} {ds : List D} {v : V} (h : DR K H (.ptp ds) v) : DR K H (.tup ds) v := by
  obtain ⟨a, o, vs, h1, h2, h4, h3⟩ := h
  exact ⟨a, vs, h1, .inl (.inr ⟨o, h2⟩), h3⟩
theorem ed_ptp {e : Expr} {ds : List D} (h : ED X ρ e (.ptp ds)) : ED X ρ e (.tup ds) := fun B0 B σ H0 H Q j k => h B0 B σ H0 H Q j fun v H0' H' g r => k v H0' H' g (ptp_tup r)
theorem call_tupleX : CallR X (.type "tuple") (fun xs H Q => ∃ p ys, xs = [.ref p] ∧ SqL X.K H p ys ∧ ∀ l o, o.dict = none → H l = none → Q (.ref l) (upd H l (.frz o (.tup ys)))) := by
  intro pins s σ H xs us Q I r h
  obtain ⟨p, ys, rfl, hq, q⟩ := h
  obtain ⟨u, rfl, rx⟩ := vals1 r
  cases rx
  obtain ⟨its, r', pl, hz⟩ := I.list hq
  have hlen := r'.length
  refine call_tuple_list pl.isList (fun h' kp => ?_) (by simp only [List.size_toArray] <;> omega)
  have I1 : Inv X pins σ H { s with heap := h' } := I.kept (t' := s.toks) kp
  have I2 : Inv X pins σ (upd H h'.objs.size (.frz { cls := .type "tuple", data := .seq its.toArray } (.tup ys))) { s with heap := h'.push { cls := .type "tuple", data := .seq its.toArray } } :=
    I1.laid (t' := s.toks) (fun b o e => Heap.get?_push_of_some _ e) (Nat.le_refl _) (show ObjOk X.prog X.w _ _ _ (.frz _ (.tup ys)) from ⟨Heap.get?_push_size _ rfl, hz, its, r', IsTup.new _ _⟩)
  exact ⟨.ref h'.objs.size, _, I2, rfl, q _ _ rfl (I1.hok.fresh (Nat.le_refl _))⟩
/-- tuple(e), e a list -/
theorem ed_tupX {e : Expr} {ds : List D} {p : Pos} (ht : Gl X "tuple") (hmt : X.mg "tuple" = none) (he : ED X ρ e (.lst ds))
    (h1 : starEach [e] X.env = (false, eval e X.env) :: starEach [] X.env := by rfl) (h2 : (backTo pos (starEach [] X.env)).any (·.1) = false := by rfl) :
    ED X ρ (.Call (.Name "tuple" p) [e] [] pos) (.ptp ds) := fun B0 B σ H0 H Q j k => by
  refine RE.of (pe_callTy call_tupleX ht hmt bb_tuple (pa_cons pe_star pa_nil h1) (by decide) (by decide) h1 h2) (he B0 B σ H0 H _ j fun v G0 G g r => ?_)
  obtain ⟨l, vs, rfl, hS, rr⟩ := r
  refine ⟨l, vs, rfl, g.sh.seq hS, fun p o ho hp => ?_⟩
  have g2 : JH G0 G (upd G0 p (.frz o (.tup vs))) (upd G p (.frz o (.tup vs))) := JH.new g.sh hp
  exact k _ _ _ (g.trans g2) ⟨p, o, vs, rfl, upd_same, ho, DRs.mono g2.s0 _ _ rr⟩
/-- the pairs of a dict -/
theorem kv_rel : ∀ {ps : List (Key × V)} {us : List (Key × Value)}, KV ps us → ps.length = us.length
  | _, _, .nil => rfl
  | _, _, .cons _ t => by simp [kv_rel t]
theorem call_dictX (hcalm : X.calm = true) : CallR X (.type "dict") (fun xs H Q => ∃ (a : Addr) (o : Obj) (ps : List Addr) (kvs : List (Key × V)), xs = [.ref a] ∧ H a = some (.frz o (.tup (ps.map V.ref))) ∧ o.dict = none ∧ Paired (fun p kv => SqT X.K H p [kV kv.1, kv.2]) ps kvs ∧
    ∀ p, H p = none → Q (.ref p) (upd H p (.dK (mergeK [] kvs)))) := by
  intro pins s σ H xs us Q I r q
  obtain ⟨a, o, ps, kvs, ex, hq, hdn, hp, q⟩ := q
  subst ex
  obtain ⟨u, eu, rx⟩ := vals1 r
  subst eu
  cases rx
  obtain ⟨hget, hz, its, rv, o', ho', hc', n', hd'⟩ := (show ObjOk X.prog X.w H s.heap a (.frz o (.tup (ps.map V.ref))) from I.hok a _ hq)
  rw [hget] at ho'; cases ho'
  have ei := refs_at rv
  subst ei
  rw [List.length_map] at hz
  obtain ⟨prs, rel, hl, hpr⟩ := L2.pairs_of I hp
  have hall : ∃ us : List (Value × Value), us.length = prs.length ∧ ∀ (i : Nat) (k v : Value), us[i]? = some (k, v) → ∃ (b : Addr) (q' : Key × Value), ps[i]? = some b ∧ prs[i]? = some q' ∧ q'.2 = v ∧ IsTup s.heap b #[k, v] ∧ (mixKind X.prog X.w).is q'.1 k = true := by
    have ex : ∀ i : Nat, ∃ x : Value × Value, i < prs.length → ∃ (b : Addr) (q' : Key × Value), ps[i]? = some b ∧ prs[i]? = some q' ∧ q'.2 = x.2 ∧ IsTup s.heap b #[x.1, x.2] ∧ (mixKind X.prog X.w).is q'.1 x.1 = true := fun i => by
      by_cases h : i < prs.length
      · obtain ⟨b, u, e1, e2, e3⟩ := hpr i prs[i] (by simp [h])
        exact ⟨(u, prs[i].2), fun _ => ⟨b, prs[i], e1, by simp [h], rfl, e2, e3⟩⟩
      · exact ⟨(.none, .none), fun z => absurd z h⟩
    let f := fun i => Classical.choose (ex i)
    have hf := fun i => Classical.choose_spec (ex i)
    refine ⟨(List.range prs.length).map f, by simp, fun i k v hi => ?_⟩
    have hlt : i < prs.length := by have := (List.getElem?_eq_some_iff.mp hi).1; simpa using this
    have e : f i = (k, v) := by
      simp [List.getElem?_map, List.getElem?_range hlt] at hi
      exact hi
    obtain ⟨b, q', e1, e2, e3, e4, e5⟩ := hf i hlt
    rw [show Classical.choose (ex i) = (k, v) from e] at e3 e4 e5
    exact ⟨b, q', e1, e2, e3, e4, e5⟩
  obtain ⟨us, hul, hus⟩ := hall
  have hps : us.length = ps.length := by rw [hul, hl]
  refine PySem.call_dict_pairs (knd := mixKind X.prog X.w) (kvs := prs) (PairArg.tuple a (ps.map Value.ref).toArray (fun i => ps.getD i 0) us) (I.ok.hd hcalm) ⟨⟨o, n', hget, hc', hdn, hd'⟩, by simp [hps], fun i k v hi => ?_⟩ ⟨hul.symm, fun i k v hi => ?_⟩ (by rw [hps]; exact hz) fun h' tk hd' k => ?_
  · obtain ⟨b, q', e1, e2, e3, e4, e5⟩ := hus i k v hi
    refine ⟨by simp [e1], .inl ?_⟩
    show s.heap.IsTuple (ps.getD i 0) #[k, v]
    rw [show ps.getD i 0 = b by simp [List.getD_eq_getElem?_getD, e1]]
    obtain ⟨ot, h1, h2, n2, h3⟩ := e4
    exact ⟨ot, h1, h2, n2, h3⟩
  · obtain ⟨b, q', e1, e2, e3, e4, e5⟩ := hus i k v hi
    exact ⟨q'.1, by rw [e2, ← e3], e5⟩
  · have hm : (s.heap.objs.size == sysModules) = false := beq_eq_false_iff_ne.mpr (Nat.ne_of_gt I.big)
    have hlen : (mergeK [] kvs).length ≤ sizeLine := by
      refine Nat.le_trans (length_mergeK kvs []) ?_
      rw [List.length_nil, Nat.zero_add, rel.length, hl]
      exact hz
    exact ⟨.ref s.heap.objs.size, upd H s.heap.objs.size (.dK (mergeK [] kvs)), I.laid (t' := tk) (fun b o e => k b o (by simp) e) (Nat.le_refl _) (show ObjOk X.prog X.w _ _ _ (.dK (mergeK [] kvs)) from ⟨hlen, hm, merged [] prs, KV.merge rel .nil, hd'⟩), rfl, q _ (I.hok.fresh (Nat.le_refl _))⟩
end
theorem mergeK_new : ∀ {kvs acc : List (Key × V)}, ((acc ++ kvs).map (·.1)).Nodup → mergeK acc kvs = acc ++ kvs
  | [], acc, _ => by unfold mergeK; simp
  | kv :: kvs, acc, h => by
    have hn : kv.1 ∉ acc.map (·.1) := by
      rw [List.map_append, List.nodup_append] at h
      exact fun z => h.2.2 _ z kv.1 (by simp) rfl
    have e : putK acc kv.1 kv.2 = acc ++ [kv] := putK_new _ (by
      cases q : valV acc kv.1 with
      | none => rfl
      | some v =>
        exact absurd (valV_in q) hn)
    have : mergeK acc (kv :: kvs) = mergeK (putK acc kv.1 kv.2) kvs := rfl
    rw [this, e, mergeK_new (by rw [List.append_assoc]; exact h), List.append_assoc]
    rfl
def prD (q : Key × D) : D := .tup [kD q.1, q.2]
theorem prs_of {K : PySem.W.Frag} {H : Hp} : ∀ {kds : List (Key × D)} {vs : List V}, DRs K H (kds.map prD) vs → ∃ (ps : List Addr) (ws : List V), vs = ps.map V.ref ∧ ws.length = kds.length ∧ Paired (fun p (kv : Key × V) => SqT K H p [kV kv.1, kv.2]) ps ((kds.map (·.1)).zip ws) ∧ DRs K H (kds.map (·.2)) ws
  | [], vs, h => by cases (show vs = [] from h); exact ⟨[], [], rfl, rfl, .nil, rfl⟩
  | q :: kds, vs, h => by
    obtain ⟨v, r, rfl, ⟨a, us, rfl, h1, h2⟩, h3⟩ := h
    obtain ⟨x, y, rfl, h4, h5⟩ := h2.two
    obtain ⟨ps, ws, rfl, hl, hp, hd⟩ := prs_of h3
    rw [kD_val h4] at h1
    exact ⟨a :: ps, y :: ws, rfl, by simp [hl], .cons h1 hp, y, ws, rfl, h5, hd⟩
theorem Paired.mono {α β : Type} {R R' : α → β → Prop} (m : ∀ a b, R a b → R' a b) : ∀ {as : List α} {bs : List β}, Paired R as bs → Paired R' as bs
  | _, _, .nil => .nil
  | _, _, .cons h t => .cons (m _ _ h) (Paired.mono m t)
section
variable {X : Cx} {ρ : En} {pos : Pos}
/-- dict(t), t a tuple of pairs, the keys each once -/
theorem eo_dictP {e : Expr} {p : Pos} {kds : List (Key × D)} (hc : X.calm = true) (ht : Gl X "dict") (hmt : X.mg "dict" = none) (nd : (kds.map (·.1)).Nodup) (he : ED X ρ e (.ptp (kds.map prD)))
    (h1 : starEach [e] X.env = (false, eval e X.env) :: starEach [] X.env := by rfl) (h2 : (backTo pos (starEach [] X.env)).any (·.1) = false := by rfl) :
    EO X ρ (.Call (.Name "dict" p) [e] [] pos) (.dk (kds.map (·.1)) (kds.map (·.2))) := fun B0 B σ H0 H Q j k => by
  refine RE.of (pe_callTy (call_dictX hc) ht hmt bb_dict (pa_cons pe_star pa_nil h1) (by decide) (by decide) h1 h2) (he B0 B σ H0 H _ j fun v G0 G g r => ?_)
  obtain ⟨a, o, vs, rfl, hS, ho, rr⟩ := r
  obtain ⟨ps, ws, rfl, hl, hp, hd⟩ := prs_of rr
  have hfst : ((kds.map (·.1)).zip ws).map (·.1) = kds.map (·.1) := List.map_fst_zip (by simp [hl])
  refine ⟨a, o, ps, (kds.map (·.1)).zip ws, rfl, g.sh _ _ hS, ho, Paired.mono (fun p kv h => Same.seqT g.sh h) hp, fun p hp => ?_⟩
  rw [mergeK_new (acc := []) (by rw [List.nil_append, hfst]; exact nd), List.nil_append]
  exact k p _ G0 _ (g.trans (JH.own g.sh hp)) upd_same (g.sh.free hp) (g.sB.free hp) ⟨ws, rfl, by simp [hl], hd⟩
/-- z[lo:hi], z a text -/
theorem ed_sliceS {e : Expr} {lo hi : Option Expr} {p q : Option Int} {z : Str} {p2 : Pos} (he : ED X ρ e (.str z)) (hz : z.length ≤ sizeLine) (hl : Part X ρ lo p) (hh : Part X ρ hi q) : ED X ρ (.Subscript e (.Slice lo hi none p2) pos) (.str (cutS z p q)) := fun B0 B σ H0 H Q j k =>
  RE.of (pe_slice sl_str pe_star po_star po_star) (he B0 B σ H0 H _ j fun v G0 G g1 r => hl.run (j.grow g1) fun L0 L g2 => hh.run ((j.grow g1).grow g2) fun M0 M g3 =>
    ⟨z, r, hz, k _ M0 M ((g1.trans g2).trans g3) rfl⟩)
/-- t[lo:hi], t a tuple -/
theorem ed_sliceT {e : Expr} {lo hi : Option Expr} {p q : Option Int} {ds : List D} {p2 : Pos} (he : ED X ρ e (.tup ds)) (hl : Part X ρ lo p) (hh : Part X ρ hi q) : ED X ρ (.Subscript e (.Slice lo hi none p2) pos) (.tup (cutD ds p q)) := fun B0 B σ H0 H Q j k =>
  RE.of (pe_slice sl_tupA pe_star po_star po_star) (he B0 B σ H0 H _ j fun v G0 G g1 r => hl.run (j.grow g1) fun L0 L g2 => hh.run ((j.grow g1).grow g2) fun M0 M g3 => by
    obtain ⟨a, vs, rfl, h1, h2⟩ := r
    have g := g2.trans g3
    have h2' := DRs.mono g.s0 _ _ h2
    have h1' := Same.seqT (g.sh) (Same.seqT g.s0 h1)
    refine ⟨a, vs, rfl, h1', fun hw => k _ M0 M (g1.trans g) ⟨a, _, rfl, Same.seqT g.s0 h1, by
      have e : cutD ds p q = ds := by
        unfold cutD
        rw [DRs.length h2', hw.1, hw.2, List.drop_zero, Nat.sub_zero, ← DRs.length h2', List.take_length]
      rw [e]; exact h2'⟩, fun hw pp hp => ?_⟩
    have g4 : JH M0 M (upd M0 pp (.tup (cutV vs p q))) (upd M pp (.tup (cutV vs p q))) := JH.new g.sh hp
    exact k _ _ _ ((g1.trans g).trans g4) ⟨pp, _, rfl, SqT.of upd_same, DRs.mono g4.s0 _ _ (DRs.cut h2' _ _)⟩)
end
end DL

/-! a <= b <= c < d; two readings of one def. -/
namespace DL
open PySem PySem.Spec PyProof.Rows L2
section
variable {X : Cx} {ρ : En} {pos : Pos} {a b c d : Expr}
def tChain3 (r r' r'' : R2) (ta tb tc td : TE) : TE := fun σ H Q => ta σ H fun x H1 => tb σ H1 fun y H2 => r x y H2 fun z H3 => ∃ k, z = .bl k ∧
  (if k = true then tc σ H3 fun u H4 => r' y u H4 fun z' H5 => ∃ k', z' = .bl k' ∧ (if k' = true then td σ H5 fun v H6 => r'' u v H6 Q else Q (.bl false) H5) else Q (.bl false) H3)
theorem pe_chain3 {op op' op'' : CmpOp} {r r' r'' : R2} {ta tb tc td : TE} (ho : OpR X (compareOp op) r) (ho' : OpR X (compareOp op') r') (ho'' : OpR X (compareOp op'') r'') (ha : PE X a ta) (hb : PE X b tb) (hc : PE X c tc) (hd : PE X d td)
    (hm : lastMarks [op, op', op''] [b, c, d] = false := by with_unfolding_all rfl) : PE X (.Compare a [op, op', op''] [b, c, d] pos) (tChain3 r r' r'' ta tb tc td) := by
  refine ⟨fun pins s σ H Q I h => ?_⟩
  refine Compare_chain (thn (ha.run pins s σ H _ I h) fun v s1 ⟨x, H1, I1, r1, q1⟩ => chain_link (thn (hb.run pins s1 σ H1 _ I1 q1) fun u s2 ⟨y, H2, I2, r2, q2⟩ =>
    thn (ho pins s2 σ H2 x y v u _ I2 r1 r2 q2) fun d s3 ⟨z, H3, I3, r3, k, e, q3⟩ => ?_)) hm
  subst e
  cases r3
  refine wpAny_truthy_bool ?_
  cases k with
  | false => exact ite_ff ⟨.bl false, H3, I3, rfl, q3⟩
  | true =>
    refine ite_tt (chain_link (thn (hc.run pins s3 σ H3 _ I3 q3) fun w' s4 ⟨z', H4, I4, r4, q4⟩ => thn (ho' pins s4 σ H4 y z' u w' _ I4 r2 r4 q4) fun d5 s5 ⟨z5, H5, I5, r5, k5, e5, q5⟩ => ?_))
    subst e5
    cases r5
    refine wpAny_truthy_bool ?_
    cases k5 with
    | false => exact ite_ff ⟨.bl false, H5, I5, rfl, q5⟩
    | true => exact ite_tt (chain_last (thn (hd.run pins s5 σ H5 _ I5 q5) fun w6 s6 ⟨z6, H6, I6, r6, q6⟩ => ho'' pins s6 σ H6 z' z6 w' w6 Q I6 r4 r6 q6))
theorem ed_chain3 {op op' op'' : CmpOp} {d1 d2 d3 d4 : D} {k k' k'' : Bool} (ha : ED X ρ a d1) (hb : ED X ρ b d2) (hc : ED X ρ c d3) (hd : ED X ρ d d4) (ho : C2 X op d1 d2 (.bl k)) (ho' : C2 X op' d2 d3 (.bl k')) (ho'' : C2 X op'' d3 d4 (.bl k'')) (hm : lastMarks [op, op', op''] [b, c, d] = false := by with_unfolding_all rfl) :
    ED X ρ (.Compare a [op, op', op''] [b, c, d] pos) (.bl (k && (k' && k''))) := fun B0 B σ H0 H Q j kk => by
  obtain ⟨r, h1, h2⟩ := ho
  obtain ⟨r', h1', h2'⟩ := ho'
  obtain ⟨r'', h1'', h2''⟩ := ho''
  refine RE.of (pe_chain3 h1 h1' h1'' pe_star pe_star pe_star pe_star hm) (ha B0 B σ H0 H _ j fun x G0 G g1 r1 => ?_)
  refine hb B0 B σ G0 G _ (j.grow g1) fun y L0 L g2 r2 => ?_
  refine h2 L0 L x y _ g2.sh (DR.mono g2.s0 _ _ r1) r2 fun v M0 M g3 r3 => ⟨k, r3, ?_⟩
  cases k with
  | false => exact iteF (kk _ M0 M ((g1.trans g2).trans g3) rfl)
  | true =>
    refine iteT (hc B0 B σ M0 M _ (((j.grow g1).grow g2).grow g3) fun z N0 N g4 r4 => ?_)
    refine h2' N0 N y z _ g4.sh (DR.mono (g3.trans g4).s0 _ _ r2) r4 fun v P0 P g5 r5 => ⟨k', r5, ?_⟩
    have gg := ((g1.trans g2).trans (g3.trans g4)).trans g5
    cases k' with
    | false => exact iteF (kk _ P0 P gg (by show V.bl false = V.bl (true && (false && k'')); rfl))
    | true =>
      refine iteT (hd B0 B σ P0 P _ (j.grow gg) fun z6 R0 R g6 r6 => ?_)
      exact h2'' R0 R z z6 Q g6.sh (DR.mono (g5.trans g6).s0 _ _ r4) r6 fun v S0 S g7 r7 => kk v S0 S (gg.trans (g6.trans g7)) (by simpa using r7)
end
/-! signs -/
theorem one_lt (a b : Nat) : (([a] : List Nat) < [b]) ↔ a < b := by
  constructor
  · intro h
    cases h with
    | rel h => exact h
    | cons h => cases h
  · exact fun h => List.Lex.rel h
theorem chX {x y : Str} {lo hi : Nat} (e1 : x.cps.toList = [lo]) (e2 : y.cps.toList = [hi]) (c : Nat) : ((!decide ((⟨#[c]⟩ : Str).cps.toList < x.cps.toList)) && (!decide (y.cps.toList < (⟨#[c]⟩ : Str).cps.toList))) = (decide (lo ≤ c) && decide (c ≤ hi)) := by
  rw [Bool.eq_iff_iff]
  simp only [Bool.and_eq_true, Bool.not_eq_true', decide_eq_false_iff_not, decide_eq_true_eq]
  rw [e1, e2]
  show ¬ (([c] : List Nat) < [lo]) ∧ ¬ (([hi] : List Nat) < [c]) ↔ _
  rw [one_lt, one_lt]
  omega
theorem chA (c : Nat) : ((!decide ((⟨#[c]⟩ : Str).cps.toList < (PySem.Str.ofString "a").cps.toList)) && (!decide ((PySem.Str.ofString "z").cps.toList < (⟨#[c]⟩ : Str).cps.toList))) = (decide (97 ≤ c) && decide (c ≤ 122)) :=
  chX (by decide +kernel) (by decide +kernel) c
theorem ch0 (c : Nat) : ((!decide ((⟨#[c]⟩ : Str).cps.toList < (PySem.Str.ofString "0").cps.toList)) && (!decide ((PySem.Str.ofString "9").cps.toList < (⟨#[c]⟩ : Str).cps.toList))) = (decide (48 ≤ c) && decide (c ≤ 57)) :=
  chX (by decide +kernel) (by decide +kernel) c
end DL

/-! Circuits: names, devices, what is valid; sorted names. -/
namespace DL
open PySem PySem.Spec PyProof.Rows L2
open PySem.W (AllAlike Sortable dataLe alike)
/-! ### names -/
def loB (c : Nat) : Bool := decide (97 ≤ c) && decide (c ≤ 122)
def chB (c : Nat) : Bool := loB c || (decide (48 ≤ c) && decide (c ≤ 57))
def nameB (x : Str) : Bool := (decide (1 ≤ x.length) && decide (x.length ≤ 12)) && (loB (x.cps.toList.getD 0 0) && x.cps.toList.all chB)
theorem sgn_lt (c d : Nat) : (sgn c).cps.toList < (sgn d).cps.toList ↔ c < d := by
  show [c] < [d] ↔ c < d
  constructor
  · intro h
    cases h with
    | rel h => exact h
    | cons h => cases h
  · intro h
    exact List.Lex.rel h
/-! ### devices -/
structure Dev where
  k : Str
  g : Int
  a : Int
  b : Int
  w : Int
  l : Int
deriving DecidableEq
def Dev.e (v : Dev) : D := .tup [.str v.k, .int v.g, .int v.a, .int v.b, .int v.w, .int v.l]
abbrev Nm := Int × Str
def nmE (q : Nm) : D := .tup [.int q.1, .str q.2]
structure DevOk (n : Int) (v : Dev) : Prop where
  k : v.k = ("n" : Str) ∨ v.k = ("p" : Str)
  g : 0 ≤ v.g ∧ v.g < n
  e : 0 ≤ v.a ∧ v.a ≤ v.b ∧ v.b < n
  w : 1 ≤ v.w
  l : 1 ≤ v.l
structure CirOk (n : Int) (N : List Nm) (V : List Dev) : Prop where
  nn : 0 ≤ n ∧ n ≤ 200
  nm : ∀ q ∈ N, (0 ≤ q.1 ∧ q.1 < n) ∧ nameB q.2 = true
  d1 : (N.map (·.1)).Nodup
  d2 : (N.map (·.2)).Nodup
  nl : N.length ≤ 1000
  vl : V.length ≤ 200
  dv : ∀ v ∈ V, DevOk n v
noncomputable def srtN (N : List Nm) : List Nm := srtK nmE N
theorem nm_py (q : Nm) : (nmE q).py = .tuple [.int q.1, .str q.2] := rfl
theorem nm_sort {A : Around} {N : List Nm} (hu : A.units + 64 < cLine) : KeyOk A nmE N := by
  refine ⟨fun q _ => rfl, fun d hd d' hd' => ?_, .inl fun d hd => ?_, fun q _ => ?_⟩
  · obtain ⟨q, _, rfl⟩ := List.mem_map.mp hd
    obtain ⟨q', _, rfl⟩ := List.mem_map.mp hd'
    simp [nm_py, alike, PySem.W.alikeAll]
  · obtain ⟨q, _, rfl⟩ := List.mem_map.mp hd
    exact ⟨_, _, rfl⟩
  · rw [nm_py]
    have : (PyData.tuple [.int q.1, .str q.2]).depth ≤ 8 := by simp [PyData.depth, PyData.depthAll]
    omega
theorem srtN_perm (N : List Nm) : (srtN N).Perm N := srtK_perm nmE N
theorem nm_le {p q : Nm} (h : dataLe false (fun b => (nmE b).py) p q = true) : p.1 ≤ q.1 := by
  refine Int.not_lt.mp fun hlt => ?_
  have e : PySem.W.dataLt (nmE q).py (nmE p).py = true := by
    rw [nm_py, nm_py, PySem.W.dataLt_pair (by simp [alike]) (by simp [alike]), if_neg, PySem.W.dataLt_int]
    · exact decide_eq_true hlt
    · simp only [PyData.eqv, beq_iff_eq]
      omega
  rw [PySem.W.dataLe_eq] at h
  change (!PySem.W.dataLt (nmE q).py (nmE p).py) = true at h
  rw [e] at h
  cases h
theorem srtN_le (N : List Nm) : (srtN N).Pairwise (fun p q => p.1 ≤ q.1) := by
  have : (srtN N).Pairwise (fun a b => dataLe false (fun b => (nmE b).py) a b = true) := PySem.W.sort_pairwise (PySem.W.sortLe_total _ false _) N
  exact this.imp fun h => nm_le h
theorem srtN_lt {N : List Nm} (h : (N.map (·.1)).Nodup) : (srtN N).Pairwise (fun p q => p.1 < q.1) := by
  have h2 : ((srtN N).map (·.1)).Nodup := ((srtN_perm N).map (·.1)).nodup_iff.mpr h
  have h3 : (srtN N).Pairwise (fun p q => p.1 ≠ q.1) := List.pairwise_map.mp h2
  exact ((srtN_le N).and h3).imp fun {a b} ⟨p, q⟩ => by omega
theorem srtN_eq {N M : List Nm} (p : M.Perm N) (h : (N.map (·.1)).Nodup) : srtN M = srtN N :=
  perm_srt_eq (r := fun p q : Nm => p.1 < q.1) (fun a b h1 h2 => by omega) (((srtN_perm M).trans p).trans (srtN_perm N).symm) (srtN_lt ((p.map (·.1)).nodup_iff.mpr h)) (srtN_lt h)
theorem srtN_len (N : List Nm) : (srtN N).length = N.length := (srtN_perm N).length_eq
/-- what stands in an instance -/
def cirF : List Str := ["net_count", "names", "devices", "_name_table"]
noncomputable abbrev cirV (n : Int) (N : List Nm) (V : List Dev) : List D := [.int n, .tup ((srtN N).map nmE), .tup (V.map Dev.e), .dk ((srtN N).map fun q => Sum.inl q.1) ((srtN N).map fun q => D.str q.2)]
noncomputable abbrev cirD (n : Int) (N : List Nm) (V : List Dev) : D := .obj "Circuit" ["net_count", "names", "devices", "_name_table"] (cirV n N V)
/-! ### what the defs ask -/
theorem at_first {x : Str} {k : Bool} (h : (!(decide ((1 : Int) ≤ (x.length : Int)) && k)) = false) : atI x.cps.toList 0 = some (x.cps.toList.getD 0 0) := by
  have h1 : 1 ≤ x.length := by
    simp only [Bool.not_eq_false', Bool.and_eq_true, decide_eq_true_eq] at h
    omega
  refine atI_nn (by decide) ?_
  have : (0 : Int).toNat < x.cps.toList.length := by rw [Array.length_toList]; exact h1
  rw [List.getElem?_eq_getElem this, List.getD_eq_getElem?_getD, List.getElem?_eq_getElem (by exact this)]
  rfl
theorem name_no {x : Str} (h : ((!(decide ((1 : Int) ≤ (x.length : Int)) && decide ((x.length : Int) ≤ 12))) || (!(decide (97 ≤ x.cps.toList.getD 0 0) && decide (x.cps.toList.getD 0 0 ≤ 122)))) = true) : nameB x = false := by
  unfold nameB loB
  rw [show decide (1 ≤ x.length) = decide ((1 : Int) ≤ (x.length : Int)) from decide_eq_decide.mpr (by omega), show decide (x.length ≤ 12) = decide ((x.length : Int) ≤ 12) from decide_eq_decide.mpr (by omega)]
  revert h
  generalize (decide ((1 : Int) ≤ (x.length : Int)) && decide ((x.length : Int) ≤ 12)) = p
  generalize (decide (97 ≤ x.cps.toList.getD 0 0) && decide (x.cps.toList.getD 0 0 ≤ 122)) = q
  cases p <;> cases q <;> simp
theorem name_yes {x : Str} (h : ((!(decide ((1 : Int) ≤ (x.length : Int)) && decide ((x.length : Int) ≤ 12))) || (!(decide (97 ≤ x.cps.toList.getD 0 0) && decide (x.cps.toList.getD 0 0 ≤ 122)))) = false) : nameB x = (x.cps.toList.map chB).all id := by
  unfold nameB loB
  rw [show decide (1 ≤ x.length) = decide ((1 : Int) ≤ (x.length : Int)) from decide_eq_decide.mpr (by omega), show decide (x.length ≤ 12) = decide ((x.length : Int) ≤ 12) from decide_eq_decide.mpr (by omega)]
  revert h
  generalize (decide ((1 : Int) ≤ (x.length : Int)) && decide ((x.length : Int) ≤ 12)) = p
  generalize (decide (97 ≤ x.cps.toList.getD 0 0) && decide (x.cps.toList.getD 0 0 ≤ 122)) = q
  cases p <;> cases q <;> simp [List.all_map]
def devB (n : Int) (v : Dev) : Bool := (decide (v.k ∈ (["n", "p"] : List Str)) && ((decide (0 ≤ v.g) && decide (v.g < n)) && ((decide (0 ≤ v.a) && (decide (v.a ≤ v.b) && decide (v.b < n))) && (decide (1 ≤ v.w) && decide (1 ≤ v.l)))))
theorem dev_ok {v : Dev} {n : Int} (h : DevOk n v) : (decide (v.k ∈ (["n", "p"] : List Str)) && ((decide (0 ≤ v.g) && decide (v.g < n)) && ((decide (0 ≤ v.a) && (decide (v.a ≤ v.b) && decide (v.b < n))) && (decide (1 ≤ v.w) && decide (1 ≤ v.l))))) = true := by
  have h1 : v.k ∈ (["n", "p"] : List Str) := by
    rcases h.k with e | e <;> rw [e] <;> simp
  simp [h1, h.g.1, h.g.2, h.e.1, h.e.2.1, h.e.2.2, h.w, h.l]
theorem bc_lenSeq {X : Cx} {d : D} {ds : List D} (h : SeqD d ds) : BC X (.builtin "len") [d] (.int ds.length) := by
  cases h with
  | lst => exact bc_lenL
  | tup => exact bc_lenT
theorem bc_tupSeq {X : Cx} {d : D} {ds : List D} (h : SeqD d ds) : BC X (.type "tuple") [d] (.tup ds) := by
  cases h with
  | lst => exact bc_tupL
  | tup => exact bc_tupT
def namesB (N : List Nm) (n : Int) : Bool := N.all (fun q => (decide (0 ≤ q.1) && decide (q.1 < n)) && nameB q.2) && (decide ((ddK (N.map fun q => Sum.inl q.1)).length = N.length) && decide ((ddK (N.map fun q => Sum.inr q.2)).length = N.length))
theorem namesB_eq (N : List Nm) (n : Int) : namesB N n = (((N.map fun q : Nm => (decide (0 ≤ q.1) && decide (q.1 < n)) && nameB q.2).all id) && (decide ((((ddK (N.map fun q : Nm => (Sum.inl q.1 : Key))).length : Nat) : Int) = ((N.map nmE).length : Int)) && decide ((((ddK (N.map fun q : Nm => (Sum.inr q.2 : Key))).length : Nat) : Int) = ((N.map nmE).length : Int)))) := by
  unfold namesB
  rw [List.all_map, List.length_map]
  rw [show decide ((ddK (N.map fun q => Sum.inl q.1)).length = N.length) = decide (((ddK (N.map fun q => Sum.inl q.1)).length : Int) = (N.length : Int)) from decide_eq_decide.mpr (by omega), show decide ((ddK (N.map fun q => Sum.inr q.2)).length = N.length) = decide (((ddK (N.map fun q => Sum.inr q.2)).length : Int) = (N.length : Int)) from decide_eq_decide.mpr (by omega)]
  rfl
theorem nameB_len {x : Str} (h : nameB x = true) : x.length ≤ 12 := by
  unfold nameB at h
  simp only [Bool.and_eq_true, decide_eq_true_eq] at h
  exact h.1.2
theorem CirOk.short {n : Int} {N : List Nm} {V : List Dev} (ok : CirOk n N V) : ∀ q ∈ N, q.2.length ≤ 1000 := fun q hq => by
  have := nameB_len (ok.nm q hq).2; omega
theorem nodup_inl {N : List Nm} (h : (N.map (·.1)).Nodup) : (N.map fun q : Nm => (Sum.inl q.1 : Key)).Nodup := by
  have : (N.map fun q : Nm => (Sum.inl q.1 : Key)) = (N.map (·.1)).map Sum.inl := by rw [List.map_map]; rfl
  rw [this]
  exact List.Pairwise.map _ (fun a b hab e => hab (Sum.inl.inj e)) h
theorem nodup_inr {N : List Nm} (h : (N.map (·.2)).Nodup) : (N.map fun q : Nm => (Sum.inr q.2 : Key)).Nodup := by
  have : (N.map fun q : Nm => (Sum.inr q.2 : Key)) = (N.map (·.2)).map Sum.inr := by rw [List.map_map]; rfl
  rw [this]
  exact List.Pairwise.map _ (fun a b hab e => hab (Sum.inr.inj e)) h
theorem CirOk.namesB {n : Int} {N : List Nm} {V : List Dev} (ok : CirOk n N V) : DL.namesB N n = true := by
  unfold DL.namesB
  rw [ddK_nodup _ (nodup_inl ok.d1), ddK_nodup _ (nodup_inr ok.d2), List.length_map, List.length_map]
  simp only [decide_true, Bool.and_true, List.all_eq_true, Bool.and_eq_true, decide_eq_true_eq]
  intro q hq
  exact ok.nm q hq
def nmK (q : Nm) : Key × D := (.inl q.1, .str q.2)
theorem nmK_D (N : List Nm) : N.map nmE = (N.map nmK).map prD := by rw [List.map_map]; rfl
theorem CirOk.keys {n : Int} {N : List Nm} {V : List Dev} (ok : CirOk n N V) : (((srtN N).map nmK).map (·.1)).Nodup := by
  rw [List.map_map]
  exact nodup_inl (((srtN_perm N).map (·.1)).nodup_iff.mpr ok.d1)
theorem cirWk {K : PySem.W.Frag} {n : Int} {N : List Nm} {W : List Dev} (H : Hp) (vs : List V) (h : DRs K H [.int n, .ptp ((srtN N).map nmE), .tup (W.map Dev.e), .dk (((srtN N).map nmK).map (·.1)) (((srtN N).map nmK).map (·.2))] vs) : DRs K H (cirV n N W) vs := by
  obtain ⟨v1, r1, rfl, h1, v2, r2, rfl, h2, v3, r3, rfl, h3, v4, r4, rfl, h4, h5⟩ := h
  rw [List.map_map, List.map_map] at h4
  exact ⟨v1, _, rfl, h1, v2, _, rfl, ptp_tup h2, v3, _, rfl, h3, v4, _, rfl, h4, h5⟩
end DL

/-! extend by a tuple; dict comprehensions; index, in; int of a bool; sorted of two. -/
namespace DL
open PySem PySem.Spec PyProof.Rows L2
theorem grow_by_tuple (a b : Addr) (xs ys : Array Value) (n m : Nat) (dd : Option Addr) (sl : Array (Option Value)) (room : ¬(!xs.isEmpty && Builtin.List.listTooLong (xs.size + ys.size)) = true) (few : xs.size ≤ sizeLine) (few2 : xs.size + ys.size ≤ sizeLine + 1) :
    Meets (Builtin.«list.extend» ⟨[.ref a, .ref b], []⟩) (fun _ R s => s.heap.get? a = some { cls := .type "list", dict := none, data := .seq xs n, slots := #[] } ∧ s.heap.get? b = some { cls := .type "tuple", dict := dd, data := .seq ys m, slots := sl } ∧
      R (.ok (.ret .none)) { s with heap := s.heap.update a (Obj.mapSeq (· ++ ys)), toks := s.toks }) := .of_wp fun prog w A R s h => by
  obtain ⟨hp, gs, dr, tk, os⟩ := s
  obtain ⟨ga, gb, fin⟩ := h
  have t1 := AutoSeq1.idx_int
  have t2 := AutoSeq1.sub_tuple_tuple
  have t3 := AutoSeq1.sub_list_list
  have t4 := AutoSeq1.sub_tuple_list
  have t5 := AutoSeq1.sub_list_tuple
  have few3 : (xs ++ ys).size ≤ sizeLine + 1 := by rw [Array.size_append]; exact few2
  wp_walk using (wpAny_updateSeq ga rfl (hz := few) (_hz' := few3)), AutoSeq1.wpAny_loadPart' ga, AutoSeq1.wpAny_loadPart' gb
  exact ⟨_, rfl, fin⟩
section
variable {X : Cx} {ρ : En} {pos : Pos}
def rExtT (K : PySem.W.Frag) : V → List V → Hp → VK → Prop := fun x vs H Q => ∃ l b xs zs, x = .ref l ∧ vs = [.ref b] ∧ H l = some (.lst xs) ∧ SqT K H b zs ∧ xs.length + zs.length ≤ sizeLine ∧ Q .non (upd H l (.lst (xs ++ zs)))
theorem mt_extT : MtM X "list.extend" (rExtT X.K) := by
  intro pins s σ H x vs v us Q I rx rv h
  obtain ⟨l, b, xs, zs, rfl, rfl, hH, hB, hz, q⟩ := h
  cases rx
  obtain ⟨u, rfl, ru⟩ := rv.one
  cases ru
  obtain ⟨z, its, n, r, hl, e⟩ := I.lstM hH
  obtain ⟨its2, r2, ⟨⟨cl, dd, dat, sl⟩, e2, hc2, n2, hd2⟩, hl2⟩ := I.tuple hB
  simp only at hc2 hd2
  subst hc2 hd2
  have len1 := r.length
  have len2 := r2.length
  have hsz : its.toArray.size + its2.toArray.size ≤ sizeLine := by rw [List.size_toArray, List.size_toArray]; omega
  have hlong : ¬ (!its.toArray.isEmpty && Builtin.List.listTooLong (its.toArray.size + its2.toArray.size)) = true := by
    rw [notLongL hsz, Bool.and_false]
    exact Bool.false_ne_true
  refine call_meets F.slot_list_extend ⟨_, e, rfl⟩ F.entry_list_extend (F.args_list_extend_2 _ _)
    (grow_by_tuple l b its.toArray its2.toArray n n2 dd sl hlong (by rw [List.size_toArray]; omega) (by omega)) ⟨e, e2, ?_⟩
  refine ⟨.non, _, I.lset (its' := its ++ its2) hH e (by simp) (r.append r2) ?_, rfl, q⟩
  rw [List.length_append]
  omega
/-- x.extend(t), x the list that slot i owns, t a tuple -/
theorem ws_extendT (i : Nat) {x : Str} {e : Expr} {ds zs : List D} {p1 p2 p3 : Pos} {Φ : Out → Prop} (hi : ρ[i]? = some (.ow (.lst ds))) (he : ED X ρ e (.tup zs)) (hl : ds.length + zs.length ≤ sizeLine) (hΦ : Φ (.nx (ρ.set i (.ow (.lst (ds ++ zs))))))
    (hpe : ∀ {ta : TA}, PA X [e] ta → PS X (.Expr (.Call (.Attribute (.Name x p1) "extend" p2) [e] [] p3) pos) (tDrop (tBM X.K "list" (rExtT X.K) (tVar i) ta)))
    (hs : starEach [e] X.env = (false, eval e X.env) :: starEach [] X.env := by rfl) :
    WS X (.Expr (.Call (.Attribute (.Name x p1) "extend" p2) [e] [] p3) pos) ρ Φ := fun B0 B σ H0 H Dn j k => by
  obtain ⟨ov, e0, a, o, rfl, w1, w2, w3, w4⟩ := j.get hi
  obtain ⟨vs0, rfl, r0⟩ := w4
  refine ⟨_, hpe (pa_cons pe_star pa_nil hs), _, e0, Or.inl ⟨rfl, _, Or.inl (Or.inl w1)⟩, he B0 B σ H0 H _ j fun q G0 G g r => ?_⟩
  obtain ⟨b, zs', rfl, h1, h2⟩ := r
  have j1 := j.grow g
  obtain ⟨ov, e1, a', o, e9, w1, w2, w3, w4⟩ := j1.get hi
  rw [e0] at e1; cases e1; cases e9
  obtain ⟨vs, rfl, r'⟩ := w4
  exact ⟨a, b, vs, zs', rfl, rfl, w1, Same.seqT g.sh h1, by rw [← DRs.length r', ← DRs.length h2]; exact hl, k _ hΦ _ G0 _ (j1.write hi e0 ⟨_, rfl, DRs.app r' h2⟩)⟩
theorem bc_intB {k : Bool} : BC X (.type "int") [.bl k] (.int (if k = true then 1 else 0)) := bc_keep call_int1 _ (fun _ => rfl) fun _ _ vs _ _ r q => by
  obtain ⟨x, rfl, h⟩ := r.one'
  cases (show x = .bl k from h)
  exact .inr ⟨k, rfl, by cases k <;> exact q⟩
theorem bo_sorted2 {x y : Int} : BO X (.builtin "sorted") [.lst [.int x, .int y]] (.lst [.int (min x y), .int (max x y)]) := by
  have h := bo_sortedI (X := X) (ns := [x, y])
  have e : srtI [x, y] = [min x y, max x y] := by
    refine (srtI_eq ?_ ?_).symm
    · by_cases h : x ≤ y
      · rw [Int.min_eq_left h, Int.max_eq_right h]
      · rw [Int.min_eq_right (by omega), Int.max_eq_left (by omega)]
        exact List.Perm.swap _ _ _
    · simp; omega
  rw [e] at h
  exact h
theorem c2_inInts {i : Int} {ns : List Int} : C2 X .In (.int i) (.lst (ns.map .int)) (.bl (decide (i ∈ ns))) := ⟨_, op_in_seq, fun H0 H u v Q s r1 r2 k => by
  cases (show u = .int i from r1)
  obtain ⟨a, vs, rfl, h1, h2⟩ := r2
  rw [DRs.ints h2] at h1
  have hi : inV (.int i) (ns.map V.int) = decide (i ∈ ns) := by
    unfold inV
    rw [Bool.eq_iff_iff]
    simp only [List.any_eq_true, List.mem_map, decide_eq_true_eq]
    constructor
    · rintro ⟨v, ⟨y, hy, rfl⟩, h⟩
      have : y = i := by simpa [eqV] using h
      exact this ▸ hy
    · intro h
      exact ⟨.int i, ⟨i, h, rfl⟩, by simp [eqV]⟩
  refine ⟨a, _, rfl, .inl (s.seq h1), rfl, by simp [flatV], ?_⟩
  rw [hi]
  exact k _ H0 H (JH.refl s) rfl⟩
theorem idx_first (y : Int) : ∀ (ns : List Int) (m : Nat), m < ns.idxOf y → ns[m]? ≠ some y
  | [], m, h => by simp at h
  | n :: ns, 0, h => by
    intro e
    simp only [List.getElem?_cons_zero, Option.some.injEq] at e
    rw [e, List.idxOf_cons] at h
    simp at h
  | n :: ns, m + 1, h => by
    rw [List.getElem?_cons_succ]
    refine idx_first y ns m ?_
    rw [List.idxOf_cons] at h
    by_cases e : n = y
    · simp [e] at h
    · have : (n == y) = false := by simpa using e
      rw [this, cond_false] at h
      omega
/-- xs.index(i) of ints -/
theorem ed_indexI {o e : Expr} {ns : List Int} {i : Int} {apos : Pos} (ho : ED X ρ o (.lst (ns.map .int))) (he : ED X ρ e (.int i)) (hm : i ∈ ns) 
    (hpe : ∀ {to : TE} {ta : TA}, PE X o to → PA X [e] ta → PE X (.Call (.Attribute o "index" apos) [e] [] pos) (tBM X.K "list" (rIndex X.K) to ta))
    (hs : starEach [e] X.env = (false, eval e X.env) :: starEach [] X.env := by rfl) :
    ED X ρ (.Call (.Attribute o "index" apos) [e] [] pos) (.int (ns.idxOf i : Nat)) := fun B0 B σ H0 H Q j k => by
  refine RE.of (hpe pe_star (pa_cons pe_star pa_nil hs)) (ho B0 B σ H0 H _ j fun v G0 G g r => ?_)
  obtain ⟨a, vs, rfl, h1, h2⟩ := r
  rw [DRs.ints h2] at h1
  refine ⟨Or.inl ⟨rfl, _, g.sh.seq h1⟩, he B0 B σ G0 G _ (j.grow g) fun y L0 L g2 r2 => ?_⟩
  cases (show y = .int i from r2)
  have hlt := List.idxOf_lt_length_iff.mpr hm
  have hix : ns[ns.idxOf i]? = some i := by rw [List.getElem?_eq_getElem hlt, List.getElem_idxOf hlt]
  refine ⟨a, ns.map V.int, .int i, ns.idxOf i, .int i, rfl, rfl, g2.sh.seq (g2.s0.seq h1), rfl, by simp [flatV], by rw [List.getElem?_map, hix]; rfl, by simp [eqV], ?_⟩
  first
    | exact ⟨fun m z' hm' hz' => by
        rw [List.getElem?_map] at hz'
        cases q : ns[m]? with
        | none => rw [q] at hz'; cases hz'
        | some y =>
          rw [q] at hz'
          cases hz'
          have hne : y ≠ i := fun e => by
            subst e
            exact idx_first y ns m hm' q
          simp [eqV, hne], k _ L0 L (g.trans g2) rfl⟩
end
end DL

/-! {k: v for .. in ..}, the keys ints or texts, each once. -/
namespace DL
open PySem PySem.Spec PyProof.Rows L2
section
variable {Jt : It} {n : Nat} {G : Hp → Prop} {Y : Nat → Hp → V → Hp → Prop}
theorem dc_it (w : Walk Jt n G Y) {g : TG} {tt : TT} {tk tv : TE} {vs : List Nat} {σ : L2.St} {H1 : Hp} {p : Addr} {Qd : Hp → Prop} (Pv : Nat → Hp → Prop) (h0 : Pv 0 (upd H1 p (.dK []))) (hG : ∀ i H, i ≤ n → Pv i H → G H)
    (hs : ∀ i x H H', i < n → Pv i H → Y i H x H' → g x (wipe σ vs) H' fun σ2 H2 => wipe σ2 vs = wipe σ vs ∧ tt σ2 H2 fun b H3 =>
      if b = true then tk σ2 H3 fun y H4 => tv σ2 H4 fun z H5 => ∃ kvs k, y = kV k ∧ H5 p = some (.dK kvs) ∧ kvs.length < sizeLine ∧ Pv (i + 1) (upd H5 p (.dK (putK kvs k z))) else Pv (i + 1) H3) (hd : ∀ H, Pv n H → Qd H) :
    ∃ W : Nat → Nat → Hp → Prop, (∃ m, W 0 m (upd H1 p (.dK []))) ∧ ∀ i m H, W i m H →
      (Jt.stop i H ∧ Qd H) ∨ (Jt.go i H ∧ ∃ Nx : Hp → Prop, (∀ H', Nx H' → ∃ m', m' < m ∧ W (i + 1) m' H') ∧ ∀ x H', Jt.yld i H x H' → g x (wipe σ vs) H' fun σ2 H2 => wipe σ2 vs = wipe σ vs ∧ tt σ2 H2 fun b H3 =>
        if b = true then tk σ2 H3 fun y H4 => tv σ2 H4 fun z H5 => ∃ kvs k, y = kV k ∧ H5 p = some (.dK kvs) ∧ kvs.length < sizeLine ∧ Nx (upd H5 p (.dK (putK kvs k z))) else Nx H3) := by
  refine ⟨fun i m H => i + m = n ∧ Pv i H, ⟨n, by omega, h0⟩, fun i m H ⟨e, q⟩ => ?_⟩
  have gq := hG i H (by omega) q
  cases m with
  | zero =>
    obtain rfl : i = n := by omega
    exact .inl ⟨w.stops H gq, hd H q⟩
  | succ m => exact .inr ⟨w.goes i H (by omega) gq, Pv (i + 1), fun H' q' => ⟨m, by omega, by omega, q'⟩, fun x H' y => hs i x H H' (by omega) q (w.yields i H x H' (by omega) gq y)⟩
end
section
variable {X : Cx} {ρ : En} {kx vx tg iter : Expr} {ifs : List Expr} {scope : Scope} {ds : List D} {cpos : Pos} {α : Type}
/-- one turn -/
def TurnD (X : Cx) (ρ : En) (scope : Scope) (vs : List Nat) (tg kx vx : Expr) (d : D) (k : Key) (v : D) : Prop :=
  ∃ ρ' : En, ρ'.length = ρ.length ∧ ∀ (s : Shared) (H : Hp) (C : Addr) (cl : List (Str × Addr)) (fp : List Addr), DG (X.blk s H scope (compEnvC scope cl C X.env) fp) vs tg d (wipeE ρ vs) ρ' ∧
    ED (X.blk s H scope (compEnvC scope cl C X.env) fp) ρ' kx (kD k) ∧ ED (X.blk s H scope (compEnvC scope cl C X.env) fp) ρ' vx v
theorem eo_dc (own : List (Str × Nat)) (xs : List α) (enc : α → D) (kf : α → Key) (vf : α → D) (hc : X.calm = true) (hN : X.N.Nodup) (ok : BlkOk X.N X.env.scope scope own) (hi : ID X ρ tg iter ds) (he : ds = xs.map enc) (nd : (xs.map kf).Nodup)
    (turn : ∀ x ∈ xs, TurnD X ρ scope (own.map (·.2)) tg kx vx (enc x) (kf x) (vf x)) (hl : xs.length ≤ sizeLine)
    (hs : ∀ x, foldedSetIterable iter X.env x = pure x := by intro _; rfl) : EO X ρ (.DictComp kx vx [⟨tg, iter, [], 0⟩] scope cpos) (.dk (xs.map kf) (xs.map vf)) := fun B0 B σ H0 H Q j k => by
  subst he
  refine RE.of (pe_dc hc hN pi_star ok (g := GB X scope tg) (tt := TB X scope []) (tk := EB X scope kx) (tv := EB X scope vx)
    (fun s H C cl fp => ⟨fun pins s1 σ1 H1 v u Q1 I r h => (pg_star (tg := tg)).run pins s1 σ1 H1 v u Q1 I r (h s H C cl fp)⟩)
    (fun s H C cl fp => ⟨fun pins s1 σ1 H1 Q1 I h => by obtain ⟨t, h1, h2⟩ := h s H C cl fp; exact h1.run pins s1 σ1 H1 Q1 I h2⟩)
    (fun s H C cl fp => ⟨fun pins s1 σ1 H1 Q1 I h => (pe_star (e := kx)).run pins s1 σ1 H1 Q1 I (h s H C cl fp)⟩)
    (fun s H C cl fp => ⟨fun pins s1 σ1 H1 Q1 I h => (pe_star (e := vx)).run pins s1 σ1 H1 Q1 I (h s H C cl fp)⟩) hs) ?_
  refine hi B0 B σ H0 H _ j fun Jt G0 G g0 ⟨GG, Y, w, hG, hY⟩ => fun Dn hD => ?_
  have j0 := j.grow g0
  rw [List.length_map] at w
  refine dc_it (g := GB X scope tg) (tt := TB X scope []) (tk := EB X scope kx) (tv := EB X scope vx) (vs := own.map (·.2)) (Qd := fun H => Q (.ref Dn) H) w
    (fun i H1 => ∃ L0 acc, JH G0 G L0 H1 ∧ H1 Dn = some (.dK (((xs.take i).map kf).zip acc)) ∧ L0 Dn = none ∧ acc.length = (xs.take i).length ∧ DRs X.K L0 ((xs.take i).map vf) acc) ⟨G0, [], JH.own g0.sh hD, upd_same, g0.sh.free hD, rfl, rfl⟩ (fun i H1 _ ⟨L0, acc, g1, _⟩ => hG L0 H1 g1.s0 g1.sh) ?_ ?_
  · rintro i x H1 H1' hi ⟨L0, acc, g1, hDn, hD0, hla, racc⟩ hy
    obtain ⟨z, hz⟩ : ∃ z, xs[i]? = some z := ⟨xs[i], by simp [hi]⟩
    obtain ⟨L1, g2, rx⟩ := hY i L0 H1 x H1' (enc z) (by rw [List.getElem?_map, hz]; rfl) g1.s0 g1.sh hy
    obtain ⟨ρ', hlen', turn⟩ := turn z (List.mem_of_getElem? hz)
    have j1 := ((j0.grow g1).grow g2).wipe (own.map (·.2))
    intro s Hs C cl fp
    refine (turn s Hs C cl fp).1 B0 B _ L1 H1' x _ j1 rx fun σ2 j2 off => ⟨wipe_back (by rw [j2.len, hlen', ← wipeE_length ρ (own.map (·.2)), ← j1.len, wipe_length]) off, ?_⟩
    have gg := g1.trans g2
    have hDn' := g2.sB _ _ hDn
    have hD0' : L1 Dn = none := g2.fr _ _ hDn trivial hD0
    have eT : xs.take (i + 1) = xs.take i ++ [z] := by rw [List.take_add_one, hz]; rfl
    intro s Hs C cl fp
    refine (tds_nil (X := X.blk s Hs scope (compEnvC scope cl C X.env) fp) (ρ := ρ')) B0 B σ2 L1 H1' _ j2 fun M0 M g3 => iteT fun s Hs C cl fp => ?_
    refine (turn s Hs C cl fp).2.1 B0 B σ2 M0 M _ (j2.grow g3) fun y N0 N g4 ry => fun s Hs C cl fp => ?_
    refine (turn s Hs C cl fp).2.2 B0 B σ2 N0 N _ ((j2.grow g3).grow g4) fun v P0 P g5 rv => ?_
    have g345 := (g3.trans g4).trans g5
    have h5 := g345.sB _ _ hDn'
    have h50 : P0 Dn = none := g345.fr _ _ hDn' trivial hD0'
    have gl := gg.trans g345
    have hle : ((xs.take i).map kf).length = acc.length := by rw [List.length_map, hla]
    have hnin : kf z ∉ (xs.take i).map kf := by
      have h1 : ((xs.take (i + 1)).map kf).Nodup := by rw [List.map_take]; exact nd.sublist (List.take_sublist ..)
      rw [eT, List.map_append, List.nodup_append] at h1
      exact fun q => h1.2.2 _ q (kf z) (by simp) rfl
    refine ⟨_, kf z, kD_val ry, h5, ?_, P0, acc ++ [v], ⟨gl.s0, fun b u e => upd_keep (gl.sh b u e) (ne_of_none e h50), fun b u e => upd_keep (gl.sB b u e) (ne_of_none e hD), gl.fr⟩, ?_, h50, ?_, ?_⟩
    · rw [List.length_zip, hle, Nat.min_self, hla, List.length_take]
      have : i < xs.length := hi
      omega
    · rw [upd_same, putK_zip hle hnin, eT, List.map_append]
      rfl
    · rw [List.length_append, hla, eT, List.length_append]; rfl
    · rw [eT, List.map_append]
      exact DRs.app (DRs.mono (g2.trans g345).s0 _ _ racc) (DRs.one rv)
  · rintro H1 ⟨L0, acc, g1, hDn, hD0, hla, racc⟩
    rw [List.take_length] at hDn hla racc
    exact k Dn _ L0 H1 (g0.trans g1) hDn hD0 (g0.sB.free hD) ⟨acc, rfl, by rw [List.length_map, hla], racc⟩
end
end DL

/-! The laws' circuits: drawn names and devices. -/
namespace DL
open PySem PySem.Spec PyProof.Rows L2
/-! ### names -/
def nmPre (d : Int) : Str := cutS (nmOf d) none (some 7)
def qStr (d : Int) (net : Nat) : Str := (nmPre d ++ ("k" : Str)) ++ (Str.ofString (toString (net : Int)))
def preOk (x : Str) : Bool := (decide (1 ≤ x.length) && decide (x.length ≤ 4)) && (loB (x.cps.toList.getD 0 0) && x.cps.toList.all chB)
theorem pre_all : ∀ a : Fin 26, ∀ b : Fin 6, preOk (cutS ((⟨#[ltr.cps.toList.getD a.val 0]⟩ : Str) ++ tls.getD b.val "") none (some 7)) = true := by decide +kernel
theorem pre_ok (d : Int) : preOk (nmPre d) = true := by
  have h1 : (d % 26).toNat < 26 := by omega
  have h2 : (d / 26 % 6).toNat < 6 := by omega
  exact pre_all ⟨_, h1⟩ ⟨_, h2⟩
def digB (c : Nat) : Bool := decide (48 ≤ c) && decide (c ≤ 57)
theorem dig_all : ∀ a : Fin 64, let x := Str.ofString (toString ((a.val : Nat) : Int)); (decide (1 ≤ x.length) && decide (x.length ≤ 2) && x.cps.toList.all digB) = true := by decide +kernel
theorem dig_inj : ∀ a b : Fin 64, (Str.ofString (toString ((a.val : Nat) : Int))).cps.toList = (Str.ofString (toString ((b.val : Nat) : Int))).cps.toList → a = b := by decide +kernel
theorem all_app {x y : Str} {p : Nat → Bool} : (x ++ y).cps.toList.all p = (x.cps.toList.all p && y.cps.toList.all p) := by
  show (x.cps ++ y.cps).toList.all p = _
  rw [Array.toList_append, List.all_append]
theorem len_app (x y : Str) : (x ++ y).length = x.length + y.length := Array.size_append
theorem cps_app (x y : Str) : (x ++ y).cps.toList = x.cps.toList ++ y.cps.toList := by
  show (x.cps ++ y.cps).toList = _
  rw [Array.toList_append]
theorem dig_ok {n : Nat} (h : n < 64) : (1 ≤ (Str.ofString (toString (n : Int))).length ∧ (Str.ofString (toString (n : Int))).length ≤ 2) ∧ (Str.ofString (toString (n : Int))).cps.toList.all digB = true := by
  have := dig_all ⟨n, h⟩
  simp only [Bool.and_eq_true, decide_eq_true_eq] at this
  exact this
theorem chB_of {c : Nat} (h : digB c = true) : chB c = true := by
  unfold chB; unfold digB at h; rw [h, Bool.or_true]
theorem qStr_ok (d : Int) {n : Nat} (h : n < 64) : nameB (qStr d n) = true := by
  have h1 := pre_ok d
  have h2 := dig_ok h
  unfold preOk at h1
  simp only [Bool.and_eq_true, decide_eq_true_eq] at h1
  obtain ⟨⟨l1, l2⟩, f, a⟩ := h1
  have lk : ("k" : Str).length = 1 := by decide +kernel
  have ak : ("k" : Str).cps.toList.all chB = true := by decide +kernel
  unfold nameB qStr
  rw [len_app, len_app, lk, all_app, all_app, a, ak, cps_app, cps_app]
  have hne : (nmPre d).cps.toList ≠ [] := fun e => by
    have : (nmPre d).cps.toList.length = 0 := by rw [e]; rfl
    rw [Array.length_toList] at this
    have l1' : 1 ≤ (nmPre d).cps.size := l1
    omega
  have hf : ((nmPre d).cps.toList ++ ("k" : Str).cps.toList ++ (Str.ofString (toString (n : Int))).cps.toList).getD 0 0 = (nmPre d).cps.toList.getD 0 0 := by
    cases q : (nmPre d).cps.toList with
    | nil => exact absurd q hne
    | cons c r => rfl
  rw [hf, f]
  have hd : (Str.ofString (toString (n : Int))).cps.toList.all chB = true := List.all_eq_true.mpr fun c hc => chB_of (List.all_eq_true.mp h2.2 c hc)
  rw [hd]
  simp only [Bool.and_true, Bool.and_eq_true, decide_eq_true_eq]
  omega
theorem tail_eq {x : Nat} {P P' D D' : List Nat} (hD : ∀ c ∈ D, c ≠ x) (hD' : ∀ c ∈ D', c ≠ x) (h : P ++ x :: D = P' ++ x :: D') : D = D' := by
  have h1 : ∀ (P D : List Nat), (∀ c ∈ D, c ≠ x) → ((P ++ x :: D).reverse.takeWhile (fun c => decide (c ≠ x))) = D.reverse := fun P D hD => by
    rw [List.reverse_append, List.reverse_cons, List.append_assoc, List.takeWhile_append_of_pos]
    · simp
    · intro c hc
      exact decide_eq_true (hD c (List.mem_reverse.mp hc))
  have := congrArg (fun l => l.reverse.takeWhile (fun c => decide (c ≠ x))) h
  simp only [h1 P D hD, h1 P' D' hD'] at this
  exact List.reverse_inj.mp this
theorem qStr_inj {d d' : Int} {n n' : Nat} (h : n < 64) (h' : n' < 64) (e : qStr d n = qStr d' n') : n = n' := by
  have e1 := congrArg (fun z : Str => z.cps.toList) e
  unfold qStr at e1
  simp only [cps_app] at e1
  have ek : ("k" : Str).cps.toList = [107] := by decide +kernel
  rw [ek, List.append_assoc, List.append_assoc] at e1
  have no : ∀ {m : Nat}, m < 64 → ∀ c ∈ (Str.ofString (toString (m : Int))).cps.toList, c ≠ 107 := fun {m} hm c hc => by
    have := List.all_eq_true.mp (dig_ok hm).2 c hc
    unfold digB at this
    simp only [Bool.and_eq_true, decide_eq_true_eq] at this
    omega
  have e2 := tail_eq (no h) (no h') e1
  have := dig_inj ⟨n, h⟩ ⟨n', h'⟩ e2
  exact congrArg Fin.val this
/-! ### the drawn circuit -/
def qM (nets most : Int) : Int := 5 * most + nets + 2
def qCnt (c nets most : Int) : Int := dr c (5 * most + nets + 2) 0 % (nets + 1)
def qNm (c M : Int) (net : Nat) : Option Nm := if dr c M (2 + (net : Int)) % 3 = 0 then some ((net : Int), qStr (dr c M (2 + (net : Int)) / 3) net) else none
def qN (c M : Int) (i : Nat) : List Nm := (List.range i).filterMap (qNm c M)
theorem qN_yes {c M : Int} {i : Nat} (h : dr c M (2 + (i : Int)) % 3 = 0) : qN c M (i + 1) = qN c M i ++ [((i : Int), qStr (dr c M (2 + (i : Int)) / 3) i)] := by
  unfold qN
  rw [List.range_succ, List.filterMap_append]
  simp [qNm, h]
theorem qN_no {c M : Int} {i : Nat} (h : ¬ dr c M (2 + (i : Int)) % 3 = 0) : qN c M (i + 1) = qN c M i := by
  unfold qN
  rw [List.range_succ, List.filterMap_append]
  simp [qNm, h]
theorem qN_len (c M : Int) (i : Nat) : (qN c M i).length ≤ i := by
  refine Nat.le_trans (List.length_filterMap_le _ _) ?_
  rw [List.length_range]
  exact Nat.le_refl i
theorem qN_mem {c M : Int} {i : Nat} {q : Nm} (h : q ∈ qN c M i) : ∃ n : Nat, n < i ∧ q.1 = (n : Int) ∧ ∃ d, q.2 = qStr d n := by
  unfold qN at h
  obtain ⟨n, h1, h2⟩ := List.mem_filterMap.mp h
  unfold qNm at h2
  split at h2
  · cases h2; exact ⟨n, List.mem_range.mp h1, rfl, _, rfl⟩
  · cases h2
theorem qN_lt (c M : Int) : ∀ i : Nat, (qN c M i).Pairwise (fun p q => p.1 < q.1)
  | 0 => List.Pairwise.nil
  | i + 1 => by
    by_cases h : dr c M (2 + (i : Int)) % 3 = 0
    · rw [qN_yes h, List.pairwise_append]
      refine ⟨qN_lt c M i, List.pairwise_singleton _ _, fun a ha b hb => ?_⟩
      rw [List.mem_singleton] at hb
      subst hb
      obtain ⟨n, h1, h2, _⟩ := qN_mem ha
      rw [h2]
      show (n : Int) < (i : Int)
      omega
    · rw [qN_no h]; exact qN_lt c M i
def kindOf (r : Int) : Str := if r % 2 = 0 then "n" else "p"
def qD (c M nets cnt : Int) (k : Nat) : Dev :=
  ⟨kindOf (dr c M (nets + 2 + 5 * (k : Int) + 0)), dr c M (nets + 2 + 5 * (k : Int) + 1) % cnt, min (dr c M (nets + 2 + 5 * (k : Int) + 2) % cnt) (dr c M (nets + 2 + 5 * (k : Int) + 3) % cnt), max (dr c M (nets + 2 + 5 * (k : Int) + 2) % cnt) (dr c M (nets + 2 + 5 * (k : Int) + 3) % cnt), 1 + dr c M (nets + 2 + 5 * (k : Int) + 4) % 3, 1 + dr c M (nets + 2 + 5 * (k : Int) + 4) / 3 % 2⟩
def qV (c M nets cnt : Int) (i : Nat) : List Dev := (List.range i).map (qD c M nets cnt)
theorem qV_succ (c M nets cnt : Int) (i : Nat) : qV c M nets cnt (i + 1) = qV c M nets cnt i ++ [qD c M nets cnt i] := by
  unfold qV; rw [List.range_succ, List.map_append]; rfl
theorem qV_len (c M nets cnt : Int) (i : Nat) : (qV c M nets cnt i).length = i := by unfold qV; rw [List.length_map, List.length_range]
def qm (c nets most : Int) : Nat := if 0 < qCnt c nets most then (dr c (5 * most + nets + 2) 1 % (most + 1)).toNat else 0
theorem qm_le (c nets most : Int) (h : 0 ≤ most) : (qm c nets most : Int) ≤ most := by
  unfold qm
  split
  · have h1 := Int.emod_nonneg (dr c (5 * most + nets + 2) 1) (b := most + 1) (by omega)
    have h2 := Int.emod_lt_of_pos (dr c (5 * most + nets + 2) 1) (b := most + 1) (by omega)
    omega
  · simpa using h
theorem qm_pos {c nets most : Int} {k : Nat} (h : k < qm c nets most) : 0 < qCnt c nets most := by
  unfold qm at h
  split at h
  · assumption
  · omega
theorem qCnt_lo {c nets most : Int} (h : 0 ≤ nets) : 0 ≤ qCnt c nets most ∧ qCnt c nets most ≤ nets := by
  unfold qCnt
  have h1 := Int.emod_nonneg (dr c (5 * most + nets + 2) 0) (b := nets + 1) (by omega)
  have h2 := Int.emod_lt_of_pos (dr c (5 * most + nets + 2) 0) (b := nets + 1) (by omega)
  omega
def cN (c nets most : Int) : List Nm := qN c (5 * most + nets + 2) (qCnt c nets most).toNat
def cV (c nets most : Int) : List Dev := qV c (5 * most + nets + 2) nets (qCnt c nets most) (qm c nets most)
theorem qcir_ok {c nets most : Int} (h1 : 0 ≤ nets ∧ nets ≤ 60) (h2 : 0 ≤ most ∧ most ≤ 60) : CirOk (qCnt c nets most) (cN c nets most) (cV c nets most) := by
  have hc := qCnt_lo (c := c) (most := most) h1.1
  have hm := qm_le c nets most h2.1
  have lt := qN_lt c (5 * most + nets + 2) (qCnt c nets most).toNat
  refine ⟨by omega, fun q hq => ?_, ?_, ?_, ?_, ?_, fun v hv => ?_⟩
  · obtain ⟨n, hn, e, d, e2⟩ := qN_mem hq
    rw [e, e2]
    exact ⟨by omega, qStr_ok d (by omega)⟩
  · exact List.pairwise_map.mpr (lt.imp fun h e => by omega)
  · refine List.pairwise_map.mpr (List.Pairwise.imp_of_mem (fun {a b} ha hb h e => ?_) lt)
    obtain ⟨n, hn, e1, d, e2⟩ := qN_mem ha
    obtain ⟨n', hn', e1', d', e2'⟩ := qN_mem hb
    rw [e2, e2'] at e
    have := qStr_inj (by omega) (by omega) e
    omega
  · have := qN_len c (5 * most + nets + 2) (qCnt c nets most).toNat
    show (qN _ _ _).length ≤ 1000
    omega
  · show (qV _ _ _ _ _).length ≤ 200
    rw [qV_len]; omega
  · unfold cV qV at hv
    obtain ⟨k, hk, rfl⟩ := List.mem_map.mp hv
    have hp := qm_pos (List.mem_range.mp hk)
    have md : ∀ x : Int, 0 ≤ x % qCnt c nets most ∧ x % qCnt c nets most < qCnt c nets most := fun x => ⟨Int.emod_nonneg _ (by omega), Int.emod_lt_of_pos _ hp⟩
    have a1 := md (dr c (5 * most + nets + 2) (nets + 2 + 5 * (k : Int) + 1))
    have a2 := md (dr c (5 * most + nets + 2) (nets + 2 + 5 * (k : Int) + 2))
    have a3 := md (dr c (5 * most + nets + 2) (nets + 2 + 5 * (k : Int) + 3))
    refine ⟨?_, a1, ?_, ?_, ?_⟩
    · unfold qD kindOf
      simp only
      split
      · exact .inl rfl
      · exact .inr rfl
    · unfold qD
      simp only
      omega
    · unfold qD
      simp only
      omega
    · unfold qD
      simp only
      omega
/-! ### what the walk asks -/
theorem cut5 {c M lo : Int} (h0 : 0 ≤ lo) (h : lo + 5 ≤ M) : cutD ((draws c M).map D.int) (some lo) (some (lo + 5)) = [.int (dr c M (lo + 0)), .int (dr c M (lo + 1)), .int (dr c M (lo + 2)), .int (dr c M (lo + 3)), .int (dr c M (lo + 4))] := by
  have hl : ((draws c M).map D.int).length = M.toNat := by rw [List.length_map, draws_len]
  have e1 : HT.sIx ((draws c M).map D.int).length 0 (some lo) = lo.toNat := by
    rw [hl]
    show (if lo < 0 then _ else min lo.toNat M.toNat) = _
    rw [if_neg (by omega)]; omega
  have e2 : HT.sIx ((draws c M).map D.int).length ((draws c M).map D.int).length (some (lo + 5)) = lo.toNat + 5 := by
    rw [hl]
    show (if lo + 5 < 0 then _ else min (lo + 5).toNat M.toNat) = _
    rw [if_neg (by omega)]; omega
  unfold cutD
  rw [e1, e2, show lo.toNat + 5 - lo.toNat = 5 by omega]
  refine List.ext_getElem? fun i => ?_
  by_cases hi : i < 5
  · rw [List.getElem?_take_of_lt hi, List.getElem?_drop, List.getElem?_map]
    have : (draws c M)[lo.toNat + i]? = some (dr c M (lo + (i : Int))) := by
      have := dr_get (c := c) (n := M) (k := lo + (i : Int)) (by omega) (by omega)
      rw [show (lo + (i : Int)).toNat = lo.toNat + i by omega] at this
      exact this
    rw [this]
    match i, hi with
    | 0, _ => rfl
    | 1, _ => rfl
    | 2, _ => rfl
    | 3, _ => rfl
    | 4, _ => rfl
  · rw [List.getElem?_eq_none (by simp; omega), List.getElem?_eq_none (by simp; omega)]
theorem ix_kind (r : Int) : IX (.lst [.str "n", .str "p"]) (.int (r % 2)) (.str (kindOf r)) := by
  unfold kindOf
  have : r % 2 = 0 ∨ r % 2 = 1 := by omega
  rcases this with h | h
  · rw [h, if_pos rfl]; exact IX.l0
  · rw [h, if_neg (by decide)]; exact IX.l1
theorem nmOf_len (d : Int) : (nmOf d).length ≤ sizeLine := by
  have h := tls_len (d / 26 % 6).toNat
  unfold nmOf
  rw [len_app, sizeLine_eq]
  have : (⟨#[ltr.cps.toList.getD (d % 26).toNat 0]⟩ : Str).length = 1 := rfl
  omega
theorem pre_len (d : Int) : (nmPre d).length ≤ 4 := by
  have h1 := pre_ok d
  unfold preOk at h1
  simp only [Bool.and_eq_true, decide_eq_true_eq] at h1
  exact h1.1.2
theorem q1_len (d : Int) : (cutS (nmOf d) none (some 7)).length + (Str.ofString "k").length ≤ sizeLine := by
  have := pre_len d
  have lk : ("k" : Str).length = 1 := by decide +kernel
  show (nmPre d).length + ("k" : Str).length ≤ sizeLine
  rw [lk, sizeLine_eq]; omega
theorem q2_len (d : Int) {n : Nat} (h : n < 64) : (cutS (nmOf d) none (some 7) ++ Str.ofString "k").length + (Str.ofString (toString (n : Int))).length ≤ sizeLine := by
  have := pre_len d
  have h2 := dig_ok h
  have lk : ("k" : Str).length = 1 := by decide +kernel
  show (nmPre d ++ ("k" : Str)).length + _ ≤ sizeLine
  rw [len_app, lk, sizeLine_eq]; omega
theorem log_small {n m : Nat} (h : n < m) (hm : m ≤ 100) : ((n : Int)).natAbs.log2 < 1920 := by
  rw [Int.natAbs_natCast]
  by_cases h0 : n = 0
  · subst h0; decide
  · rw [Nat.log2_lt h0]
    have : n < 2 ^ 7 := by omega
    exact Nat.lt_of_lt_of_le this (Nat.pow_le_pow_right (by decide) (show 7 ≤ 1920 by omega))
theorem qm_mul {c nets most : Int} (h : 0 ≤ most) : dr c (5 * most + nets + 2) 1 % (most + 1) * (if decide (0 < dr c (5 * most + nets + 2) 0 % (nets + 1)) = true then 1 else 0) = ((qm c nets most : Nat) : Int) := by
  unfold qm
  have h1 := Int.emod_nonneg (dr c (5 * most + nets + 2) 1) (b := most + 1) (by omega)
  by_cases hp : 0 < dr c (5 * most + nets + 2) 0 % (nets + 1)
  · rw [if_pos (decide_eq_true hp), if_pos (show 0 < qCnt c nets most from hp), Int.mul_one, Int.toNat_of_nonneg h1]
  · rw [if_neg (by simpa using hp), if_neg (show ¬ 0 < qCnt c nets most from hp), Int.mul_zero]; rfl
end DL

/-! A comprehension whose items take from a list that the frame owns; list(range(n)); xs[::-1]; [0] * n. -/
namespace DL
open PySem PySem.Spec PyProof.Rows L2
section
variable {K : PySem.W.Frag} {B0 B H0 H : Hp} {σ : L2.St} {ρ : En}
/-- what stands at p, which is no slot's, changes -/
theorem J.swapD {p : Addr} {o o' : HO} (j : J K B0 (upd B p o) σ H0 H ρ) (h0 : H0 p = none) : J K B0 (upd B p o') σ H0 (upd H p o') ρ := by
  have nb : ∀ {a : Addr}, (upd B p o) a = none → a ≠ p := fun {a} h e => by subst e; rw [upd_same] at h; cases h
  have cell : ∀ {a : Addr} {c : OC}, CellR K (upd B p o) H0 H a c → CellR K (upd B p o') H0 (upd H p o') a c := fun {a c} ⟨u, h1, h2, h3, h4⟩ => by
    have n := nb h3
    exact ⟨u, by rw [upd_ne n]; exact h1, h2, by rw [upd_ne n] at h3 ⊢; exact h3, h4⟩
  refine ⟨⟨j.hp.s0, fun b u e => ?_, fun b u e => ?_, fun b u e nt e' => ?_⟩, j.len, fun i s ov h1 h2 => ?_, j.dis⟩
  · rw [upd_ne (ne_of_none e h0)]; exact j.hp.sh b u e
  · by_cases hb : b = p
    · subst hb; rw [upd_same] at e ⊢; exact e
    · rw [upd_ne hb] at e ⊢
      exact j.hp.sB b u (by rw [upd_ne hb]; exact e)
  · by_cases hb : b = p
    · subst hb; exact h0
    · rw [upd_ne hb] at e
      exact j.hp.fr b u (by rw [upd_ne hb]; exact e) nt e'
  · have q := j.sl i s ov h1 h2
    cases s with
    | no => trivial
    | sh d => exact q
    | ow c =>
      obtain ⟨a, u, f1, f2, f3, f4, f5⟩ := q
      have n := nb f4
      exact ⟨a, u, f1, by rw [upd_ne n]; exact f2, f3, by rw [upd_ne n] at f4 ⊢; exact f4, f5⟩
    | ox cs d =>
      obtain ⟨q1, q2, q3⟩ := q
      exact ⟨q1, fun r hr => cell (q2 r hr), q3⟩
/-- a new thing that is nobody's -/
theorem J.addD {p : Addr} {o : HO} (j : J K B0 B σ H0 H ρ) (hp : H p = none) : J K B0 (upd B p o) σ H0 (upd H p o) ρ := by
  have h0 : H0 p = none := j.hp.sh.free hp
  have hB : B p = none := j.hp.sB.free hp
  have nh : ∀ {a : Addr} {u : HO}, H a = some u → a ≠ p := fun {a u} h e => by subst e; rw [hp] at h; cases h
  refine ⟨⟨j.hp.s0, fun b u e => ?_, fun b u e => ?_, fun b u e nt e' => ?_⟩, j.len, fun i s ov h1 h2 => ?_, j.dis⟩
  · rw [upd_ne (ne_of_none e h0)]; exact j.hp.sh b u e
  · by_cases hb : b = p
    · subst hb; rw [upd_same] at e ⊢; exact e
    · rw [upd_ne hb] at e ⊢; exact j.hp.sB b u e
  · by_cases hb : b = p
    · subst hb; exact h0
    · rw [upd_ne hb] at e; exact j.hp.fr b u e nt e'
  · have q := j.sl i s ov h1 h2
    cases s with
    | no => trivial
    | sh d => exact q
    | ow c =>
      obtain ⟨a, u, f1, f2, f3, f4, f5⟩ := q
      have n := nh f2
      exact ⟨a, u, f1, by rw [upd_ne n]; exact f2, f3, by rw [upd_ne n]; exact f4, f5⟩
    | ox cs d =>
      obtain ⟨q1, q2, q3⟩ := q
      refine ⟨q1, fun r hr => ?_, q3⟩
      obtain ⟨u, f2, f3, f4, f5⟩ := (q2 r hr).ex
      have n := nh f2
      exact ⟨u, by rw [upd_ne n]; exact f2, f3, by rw [upd_ne n]; exact f4, f5⟩
/-- .. and is told no more -/
theorem J.dropD {p : Addr} {o : HO} (j : J K B0 (upd B p o) σ H0 H ρ) (hB : B p = none) : J K B0 B σ H0 H ρ := by
  have nb : ∀ {a : Addr}, (upd B p o) a = none → B a = none := fun {a} h => by
    have n : a ≠ p := fun e => by subst e; rw [upd_same] at h; cases h
    rw [upd_ne n] at h; exact h
  have up : ∀ {a : Addr} {u : HO}, B a = some u → (upd B p o) a = some u := fun {a u} h => by
    rw [upd_ne (ne_of_none h hB)]; exact h
  refine ⟨⟨j.hp.s0, j.hp.sh, fun b u e => j.hp.sB b u (up e), fun b u e nt e' => j.hp.fr b u (up e) nt e'⟩, j.len, fun i s ov h1 h2 => ?_, j.dis⟩
  have q := j.sl i s ov h1 h2
  cases s with
  | no => trivial
  | sh d => exact q
  | ow c =>
    obtain ⟨a, u, f1, f2, f3, f4, f5⟩ := q
    exact ⟨a, u, f1, f2, f3, nb f4, f5⟩
  | ox cs d =>
    obtain ⟨q1, q2, q3⟩ := q
    refine ⟨q1, fun r hr => ?_, q3⟩
    obtain ⟨u, f2, f3, f4, f5⟩ := (q2 r hr).ex
    exact ⟨u, f2, f3, nb f4, f5⟩
end
section
variable {X : Cx} {ρ : En} {elt tg iter : Expr} {scope : Scope} {ds : List D} {cpos pos : Pos} {Φ : Out → Prop}
/-- an expression that changes slot r -/
def ES (X : Cx) (ρ : En) (e : Expr) (d : D) (r : Nat) (s : Sl) : Prop := ∀ B0 B σ H0 H (Q : VK), J X.K B0 B σ H0 H ρ → (∀ v H0' H', J X.K B0 B σ H0' H' (ρ.set r s) → DR X.K H0' d v → Q v H') → RE X e σ H Q
/-- one turn: slot r from s to s' -/
def TurnS (X : Cx) (ρ : En) (scope : Scope) (vs : List Nat) (tg elt : Expr) (d z : D) (r : Nat) (s s' : Sl) : Prop :=
  ∃ ρ', wipeE (ρ'.set r s') vs = wipeE (ρ.set r s') vs ∧ ∀ (Sh : Shared) (H : Hp) (C : Addr) (cl : List (Str × Addr)) (fp : List Addr), DG (X.blk Sh H scope (compEnvC scope cl C X.env) fp) vs tg d (wipeE (ρ.set r s) vs) ρ' ∧
    ES (X.blk Sh H scope (compEnvC scope cl C X.env) fp) ρ' elt z r s'
def ESB (X : Cx) (scope : Scope) (elt : Expr) : TE := fun σ H Q => ∀ (s : Shared) (H' : Hp) (C : Addr) (cl : List (Str × Addr)) (fp : List Addr), RE (X.blk s H' scope (compEnvC scope cl C X.env) fp) elt σ H Q
theorem ws_retLcS (own : List (Str × Nat)) (r : Nat) (zs : List D) (st : Nat → Sl) (hc : X.calm = true) (hN : X.N.Nodup) (ok : BlkOk X.N X.env.scope scope own) (hi : ID X ρ tg iter ds) (h0 : ρ.set r (st 0) = ρ) (hlen : zs.length = ds.length)
    (turn : ∀ i d z, ds[i]? = some d → zs[i]? = some z → TurnS X ρ scope (own.map (·.2)) tg elt d z r (st i) (st (i + 1))) (hl : ds.length ≤ sizeLine) (hΦ : Φ (.rt (.lst zs)))
    (hs : ∀ x, foldedSetIterable iter X.env x = pure x := by intro _; rfl) : WS X (.Return (some (.ListComp elt [⟨tg, iter, [], 0⟩] scope cpos)) pos) ρ Φ := fun B0 B σ H0 H Dn j k => by
  refine ⟨_, ps_ret (pe_lc hc hN pi_star ok (g := GB X scope tg) (tt := TB X scope []) (te := EB X scope elt)
    (fun s H C cl fp => ⟨fun pins s1 σ1 H1 v u Q1 I r h => (pg_star (tg := tg)).run pins s1 σ1 H1 v u Q1 I r (h s H C cl fp)⟩)
    (fun s H C cl fp => ⟨fun pins s1 σ1 H1 Q1 I h => by obtain ⟨t, h1, h2⟩ := h s H C cl fp; exact h1.run pins s1 σ1 H1 Q1 I h2⟩)
    (fun s H C cl fp => ⟨fun pins s1 σ1 H1 Q1 I h => (pe_star (e := elt)).run pins s1 σ1 H1 Q1 I (h s H C cl fp)⟩) hs), ?_⟩
  refine hi B0 B σ H0 H _ j fun Jt G0 G g0 ⟨GG, Y, w, hG, hY⟩ => fun p hp => ?_
  have j0 := (j.grow g0).rebase
  have hB : B p = none := j0.hp.sB.free hp
  have jw := (j0.wipe (own.map (·.2))).addD (o := .lst []) hp
  rw [← h0] at jw
  refine lc_it (g := GB X scope tg) (tt := TB X scope []) (te := EB X scope elt) (vs := own.map (·.2)) (Qd := fun H => Dn.rt (.ref p) H) w
    (fun i H1 => ∃ L0 acc, J X.K G0 (upd B p (.lst acc)) (wipe σ (own.map (·.2))) L0 H1 (wipeE (ρ.set r (st i)) (own.map (·.2))) ∧ H1 p = some (.lst acc) ∧ L0 p = none ∧ DRs X.K L0 (zs.take i) acc)
    ⟨G0, [], jw, upd_same, g0.sh.free hp, rfl⟩ (fun i H1 _ ⟨L0, acc, j1, _⟩ => hG L0 H1 j1.hp.s0 j1.hp.sh) ?_ ?_
  · rintro i x H1 H1' hi ⟨L0, acc, j1, hpH, hp0, racc⟩ hy
    obtain ⟨d, hd⟩ : ∃ d, ds[i]? = some d := ⟨ds[i], by simp [hi]⟩
    obtain ⟨z, hz⟩ : ∃ z, zs[i]? = some z := ⟨zs[i]'(by omega), by simp [show i < zs.length by omega]⟩
    obtain ⟨L1, g2, rx⟩ := hY i L0 H1 x H1' d hd j1.hp.s0 j1.hp.sh hy
    have j2 := j1.grow g2
    have hacc : acc.length < sizeLine := by
      have h1 := DRs.length racc
      rw [List.length_take] at h1
      omega
    have hlw : (wipe σ (own.map (·.2))).length = ρ.length := by rw [wipe_length, j.len]
    obtain ⟨ρ', tw, turn⟩ := turn i d z hd hz
    have hlr : ρ'.length = ρ.length := by
      have := congrArg List.length tw
      rwa [wipeE_length, wipeE_length, List.length_set, List.length_set] at this
    intro s Hs C cl fp
    refine (turn s Hs C cl fp).1 G0 (upd B p (.lst acc)) _ L1 H1' x _ j2 rx ?_
    intro σ2 j3 off
    refine ⟨wipe_back (by rw [j3.len, hlr, j.len]) off, ?_⟩
    have wb : wipe σ2 (own.map (·.2)) = wipe σ (own.map (·.2)) := wipe_back (by rw [j3.len, hlr, j.len]) off
    intro s2 Hs2 C2 cl2 fp2
    refine (tds_nil (X := X.blk s2 Hs2 scope (compEnvC scope cl2 C2 X.env) fp2) (ρ := ρ')) G0 _ σ2 L1 H1' _ j3 fun M0 M g3 => iteT fun s4 Hs4 C4 cl4 fp4 => ?_
    have hp1 : L1 p = none := g2.fr _ _ (j1.hp.sB _ _ upd_same) trivial hp0
    refine (turn s4 Hs4 C4 cl4 fp4).2 M0 (upd B p (.lst acc)) σ2 M0 M _ (j3.grow g3).rebase fun y N0 N j4 ry => ?_
    have hM : M0 p = none := g3.fr _ _ (j3.hp.sB _ _ upd_same) trivial hp1
    have hNp : N p = some (.lst acc) := j4.hp.sB _ _ upd_same
    have hN0 : N0 p = none := j4.hp.fr _ _ upd_same trivial hM
    have j5 := ((j3.grow g3).unbase j4).wipe (own.map (·.2))
    rw [wb] at j5
    have j6 := j5.swapD (o' := .lst (acc ++ [y])) hN0
    have e6 : wipeE (ρ'.set r (st (i + 1))) (own.map (·.2)) = wipeE (ρ.set r (st (i + 1))) (own.map (·.2)) := tw
    have j7 : J X.K G0 (upd B p (.lst (acc ++ [y]))) (wipe σ (own.map (·.2))) N0 (upd N p (.lst (acc ++ [y]))) (wipeE (ρ.set r (st (i + 1))) (own.map (·.2))) := e6 ▸ j6
    refine ⟨acc, hNp, hacc, N0, acc ++ [y], j7, upd_same, hN0, ?_⟩
    rw [List.take_add_one, hz]
    exact DRs.app (DRs.mono (g2.s0.trans (g3.s0.trans j4.hp.s0)) _ _ racc) (DRs.one ry)
  · rintro H1 ⟨L0, acc, j1, hpH, hp0, racc⟩
    rw [List.take_of_length_le (Nat.le_of_eq hlen)] at racc
    have j2 := j1.dropD hB
    have s1 : Same L0 (upd L0 p (.lst acc)) := fun b u e => upd_keep e (ne_of_none e hp0)
    refine k _ hΦ (.ref p) (upd L0 p (.lst acc)) H1 ⟨(j.grow g0).hp.s0.trans (j2.hp.s0.trans s1), fun b u e => ?_, j2.hp.sB, fun b u e nt e' => ?_⟩ ⟨p, acc, rfl, SqL.of upd_same, DRs.mono s1 _ _ racc⟩
    · by_cases hb : b = p
      · subst hb; rw [upd_same] at e; cases e; exact hpH
      · rw [upd_ne hb] at e; exact j2.hp.sh b u e
    · rw [upd_ne (ne_of_none e hB)]
      exact j2.hp.fr b u e nt ((j.grow g0).hp.fr b u e nt e')
variable {e a b : Expr} {d : D}
/-- x.pop(e), x the list that slot r owns -/
theorem es_pop (r : Nat) {x : Str} {i : Int} {p1 p2 p3 : Pos} (hρ : ρ[r]? = some (.ow (.lst ds))) (he : ED X ρ e (.int i)) (h0 : 0 ≤ i) (h1 : i < ds.length) (h2 : i < 2 ^ 60) (hd : ds[i.toNat]? = some d)
    (hpe : ∀ {ta : TA}, PA X [e] ta → PE X (.Call (.Attribute (.Name x p1) "pop" p2) [e] [] p3) (tBM X.K "list" rPopAt (tVar r) ta))
    (hs : starEach [e] X.env = (false, eval e X.env) :: starEach [] X.env := by rfl) : ES X ρ (.Call (.Attribute (.Name x p1) "pop" p2) [e] [] p3) d r (.ow (.lst (ds.eraseIdx i.toNat))) := fun B0 B σ H0 H Q j k => by
  obtain ⟨ov, e0, q, o, rfl, w1, w2, w3, w4⟩ := j.get hρ
  obtain ⟨vs0, rfl, r0⟩ := w4
  refine RE.of (hpe (pa_cons pe_star pa_nil hs)) ⟨_, e0, Or.inl ⟨rfl, _, Or.inl (Or.inl w1)⟩, he B0 B σ H0 H _ j fun v G0 G g rv => ?_⟩
  cases (show v = .int i from rv)
  have j1 := j.grow g
  obtain ⟨ov, e1, q', o, e9, w1, w2, w3, w4⟩ := j1.get hρ
  rw [e0] at e1; cases e1; cases e9
  obtain ⟨vs, rfl, r'⟩ := w4
  obtain ⟨y, hy, ry⟩ := DRs.get r' hd
  have hl : ds.length = vs.length := DRs.length r'
  have he2 : DRs X.K G0 (ds.eraseIdx i.toNat) (vs.eraseIdx i.toNat) := by
    rw [List.eraseIdx_eq_take_drop_succ, List.eraseIdx_eq_take_drop_succ]
    exact DRs.app (DRs.take _ r') (DRs.drop _ r')
  refine ⟨q, vs, i, i.toNat, y, rfl, rfl, w1, by omega, by omega, ?_, hy, k y G0 _ (j1.write hρ e0 ⟨_, rfl, he2⟩) ry⟩
  exact (ixN_seq (show ixN vs.length i = some i.toNat from by unfold ixN; rw [if_pos h0, if_pos (by omega)])).1
/-- list(range(n)) -/
theorem eo_listRg1 {n : Int} {p p2 q : Pos} (hc : X.calm = true) (hl : Gl X "list") (hml : X.mg "list" = none) (hr : Gl X "range") (hmr : X.mg "range" = none) (ha : ED X ρ a (.int n)) (h0 : 0 ≤ n) (h1 : n ≤ 10000)
    (s1 : starEach [a] X.env = (false, eval a X.env) :: starEach [] X.env := by rfl) (s2 : starEach [.Call (.Name "range" p2) [a] [] q] X.env = (false, eval (.Call (.Name "range" p2) [a] [] q) X.env) :: starEach [] X.env := by rfl) :
    EO X ρ (.Call (.Name "list" p) [.Call (.Name "range" p2) [a] [] q] [] pos) (.lst ((List.range n.toNat).map fun (i : Nat) => .int (i : Int))) := fun B0 B σ H0 H Q j k => by
  refine RE.of (pe_listRg hc hl hml (prg_1 hr hmr pe_star s1) s2) (ha B0 B σ H0 H _ j fun v G0 G g r => ?_)
  refine ⟨n, r, RgOk.of_le (by omega) (by omega) (by omega) (by omega), fun p hp => k p _ G0 _ (g.trans (JH.own g.sh hp)) upd_same (g.sh.free hp) (g.sB.free hp) ⟨_, rfl, ?_⟩⟩
  have := DRs.ofInts (K := X.K) (H := G0) ((List.range n.toNat).map fun (i : Nat) => (i : Int))
  rw [List.map_map, List.map_map] at this
  unfold rgV
  rw [Int.sub_zero]
  have e : (List.range n.toNat).map (fun (i : Nat) => V.int (0 + (i : Int))) = (List.range n.toNat).map (V.int ∘ fun (i : Nat) => (i : Int)) := List.map_congr_left fun i _ => by simp
  rw [e]
  exact this
/-- list(range(m, n)) -/
theorem eo_listRg2 {m n : Int} {p p2 q : Pos} (hc : X.calm = true) (hl : Gl X "list") (hml : X.mg "list" = none) (hr : Gl X "range") (hmr : X.mg "range" = none) (ha : ED X ρ a (.int m)) (hb : ED X ρ b (.int n)) (hm : 0 ≤ m ∧ m ≤ 10000) (h0 : 0 ≤ n) (h1 : n ≤ 10000)
    (s1 : starEach [a, b] X.env = (false, eval a X.env) :: starEach [b] X.env := by rfl) (s3 : starEach [b] X.env = (false, eval b X.env) :: starEach [] X.env := by rfl) (s4 : (backTo q (starEach [b] X.env)).any (·.1) = false := by rfl) (s2 : starEach [.Call (.Name "range" p2) [a, b] [] q] X.env = (false, eval (.Call (.Name "range" p2) [a, b] [] q) X.env) :: starEach [] X.env := by rfl) :
    EO X ρ (.Call (.Name "list" p) [.Call (.Name "range" p2) [a, b] [] q] [] pos) (.lst ((List.range (n - m).toNat).map fun (i : Nat) => .int (m + (i : Int)))) := fun B0 B σ H0 H Q j k => by
  refine RE.of (pe_listRg hc hl hml (prg_2 hr hmr pe_star pe_star s1 s3 s4) s2) (ha B0 B σ H0 H _ j fun v G0 G g r => hb B0 B σ G0 G _ (j.grow g) fun w L0 L g2 r2 => ?_)
  have gg := g.trans g2
  refine ⟨m, n, r, r2, RgOk.of_le (by omega) (by omega) (by omega) (by omega), fun p hp => k p _ L0 _ (gg.trans (JH.own gg.sh hp)) upd_same (gg.sh.free hp) (gg.sB.free hp) ⟨_, rfl, ?_⟩⟩
  have := DRs.ofInts (K := X.K) (H := L0) ((List.range (n - m).toNat).map fun (i : Nat) => m + (i : Int))
  rw [List.map_map, List.map_map] at this
  exact this
/-- e[::-1], e a list -/
theorem eo_revL {kk : Nat} {p1 p2 p3 : Pos} (he : ED X ρ e (.lst ds)) : EO X ρ (.Subscript e (.Slice none none (some (.UnaryOp .USub (.Constant (.int 1) kk p1) p2)) p3) pos) (.lst ds.reverse) := fun B0 B σ H0 H Q j k => by
  refine RE.of (pe_revL pe_star) (he B0 B σ H0 H _ j fun v G0 G g r => ?_)
  obtain ⟨q, vs, rfl, h1, h2⟩ := r
  refine ⟨q, vs, rfl, g.sh.seq h1, fun p hp => k p _ G0 _ (g.trans (JH.own g.sh hp)) upd_same (g.sh.free hp) (g.sB.free hp) ⟨_, rfl, ?_⟩⟩
  have rev : ∀ {ds : List D} {vs : List V}, DRs X.K G0 ds vs → DRs X.K G0 ds.reverse vs.reverse := by
    intro ds
    induction ds with
    | nil => intro vs h; cases (show vs = [] from h); exact rfl
    | cons d ds ih =>
      intro vs h
      obtain ⟨v, r, rfl, h1, h2⟩ := h
      rw [List.reverse_cons, List.reverse_cons]
      exact DRs.app (ih h2) (DRs.one h1)
  exact rev h2
theorem drs_rep {K : PySem.W.Frag} {H : Hp} {ds : List D} {vs : List V} (h : DRs K H ds vs) : ∀ k : Nat, DRs K H (List.replicate k ds).flatten (List.replicate k vs).flatten
  | 0 => rfl
  | k + 1 => by
    rw [List.replicate_succ, List.replicate_succ, List.flatten_cons, List.flatten_cons]
    exact DRs.app h (drs_rep h k)
/-- xs * n, xs a new list -/
theorem eo_rep {n : Int} (ha : EO X ρ a (.lst ds)) (hb : ED X ρ b (.int n)) (h0 : 0 ≤ n) (h1 : n ≤ 1000000) (hl : ds.length * n.toNat ≤ sizeLine) : EO X ρ (.BinOp a .Mult b pos) (.lst (List.replicate n.toNat ds).flatten) := fun B0 B σ H0 H Q j k =>
  RE.of (pe_op op_rep pe_star pe_star) (ha B0 B σ H0 H _ j fun q o G0 G g w1 w2 w3 w4 => hb B0 B σ G0 G _ (j.grow g) fun w L0 L g2 r2 => by
    obtain ⟨vs, rfl, r⟩ := w4
    have gg := g.trans g2
    exact ⟨q, n, vs, rfl, r2, g2.sB _ _ w1, by omega, by omega, by rw [← DRs.length r]; exact hl, fun p hp => k p _ L0 _ (gg.trans (JH.own gg.sh hp)) upd_same (gg.sh.free hp) (gg.sB.free hp) ⟨_, rfl, drs_rep (DRs.mono g2.s0 _ _ r) _⟩⟩)
end
end DL

/-! Classes with an == of their own; a method that gives a new thing; d.get(k); an own list looked at as if it were shared. -/
namespace DL
open PySem PySem.Spec PyProof.Rows L2
local instance (priority := 2000) keyBEq26 : BEq Key := instBEqOfDecidableEq
/-- x op y of two plain instances of the class at C, whose def for op is at g -/
def rOwnI (K : PySem.W.Frag) (C : Addr) (sp : Sp) (E : XK) : R2 := fun x y H Q => ∃ a dx fs b dy gs, x = .ref a ∧ y = .ref b ∧ H a = some (.ins C dx fs) ∧ H b = some (.ins C dy gs) ∧ sp [x, y] H Q E
theorem op_ownI {X : Cx} {C g : Addr} {n : Nat} {sp : Sp} {E : XK} {op : CmpOp} (hop : ∀ a b, compareOp op a b = richCompare op a b) (hs : PySem.W.findIn X.K (.ref C) (cmpInfo op).2.1 = some (some (.ref g))) (hf : PySem.W.isFn X.K (.ref g) = true) (F : FnR X.prog X.w X.K X.mg X.base CX0 n g sp)
    (hr : Room n X.A) (hx : Passes CX0 X E) : OpR X (compareOp op) (rOwnI X.K C sp E) := by
  intro pins s σ H x y v u Q I rx ry h
  obtain ⟨a, dx, fs, b, dy, gs, rfl, rfl, ha, hb, q⟩ := h
  cases (show v = Value.ref a from rx)
  cases (show u = Value.ref b from ry)
  obtain ⟨mA, J, _⟩ := ins_get I.hok ha
  obtain ⟨mB, J', _⟩ := ins_get I.hok hb
  obtain ⟨od, J, _⟩ := J.look
  obtain ⟨od', J', _⟩ := J'.look
  obtain ⟨m, hF⟩ := I.fr
  rw [hop]
  refine PySem.W.cmp_K (op := op) (tb := .ref C) hr.units0 hF I.ok.mod.kin J J'.type (by simp [PySem.W.notFirst]) hs hf ?_
  refine wpAny_mono (wpAny_call (run_fnR (us := [.ref a, .ref b]) (vs := [.ref a, .ref b]) F hr hx I (.cons rfl (.cons rfl .nil)) q)) (fun w s' z => ?_) fun _ _ x => x
  obtain ⟨z', H', I', rz, qz⟩ := z
  exact SlX.cmpback rz ⟨z', H', I', rz, qz⟩
section
variable {X : Cx} {ρ : En} {pos : Pos}
/-- x == y, by the class's own def -/
theorem c2_eqObj {cn : Str} {k : Nat} {R : List D → D → Prop} {ns ms : List Str} {ds es : List D} {f : D} (G : FnM X.prog X.w X.K X.mg X.base cn "__eq__" k R) (hr : Room k X.A) (hR : R [.obj cn ns ds, .obj cn ms es] f) : C2 X .Eq (.obj cn ns ds) (.obj cn ms es) f := by
  obtain ⟨C, g, fd, ps, hC, hc, hmt, F, hb⟩ := G.ex
  refine ⟨rOwnI X.K C (fun vs H Q E => spR X.K R (vs ++ []) H Q E) E0, op_ownI (op := .Eq) (fun _ _ => rfl) hmt.at_ hmt.fn (F.raw hb .nil) hr pass0, ?_⟩
  intro H0 H x y Q s r1 r2 kk
  obtain ⟨a, C1, dx, vs, rfl, h1, h2, h3, h4⟩ := id r1
  obtain ⟨b, C2, dy, ws, rfl, g1, g2, g3, g4⟩ := id r2
  rw [hC] at h1 g1; cases h1; cases g1
  exact ⟨a, dx, _, b, dy, _, rfl, rfl, s _ _ h2, s _ _ g2, H0, [.obj cn ns ds, .obj cn ms es], f, s, ⟨_, _, rfl, r1, _, _, rfl, r2, rfl⟩, hR, fun r H0' H' gg hd => kk r H0' H' gg hd⟩
/-- an own list, looked at where a truth value comes out -/
theorem ed_lend (i : Nat) {c : OC} {e : Expr} {k : Bool} (hi : ρ[i]? = some (.ow c)) (h : ED X (ρ.set i (.sh c.d)) e (.bl k)) : ED X ρ e (.bl k) := fun B0 B σ H0 H Q j kk => by
  obtain ⟨H1, j', s1⟩ := j.share hi
  refine h B0 B σ H1 H Q j' fun v L0 L g r => kk v H0 L ⟨Same.refl _, (s1.trans g.s0).trans g.sh, g.sB, fun a o _ _ n => n⟩ r
theorem td_lend (i : Nat) {c : OC} {e : Expr} {k : Bool} (hi : ρ[i]? = some (.ow c)) (h : TD X (ρ.set i (.sh c.d)) e k) : TD X ρ e k := fun B0 B σ H0 H Q j kk => by
  obtain ⟨H1, j', s1⟩ := j.share hi
  exact h B0 B σ H1 H Q j' fun L0 L g => kk H0 L ⟨Same.refl _, (s1.trans g.s0).trans g.sh, g.sB, fun a o _ _ n => n⟩
/-- i in a tuple of ints -/
theorem c2_inIntsT {i : Int} {ns : List Int} : C2 X .In (.int i) (.tup (ns.map .int)) (.bl (decide (i ∈ ns))) := ⟨_, op_in_seq, fun H0 H u v Q s r1 r2 k => by
  cases (show u = .int i from r1)
  obtain ⟨a, vs, rfl, h1, h2⟩ := r2
  rw [DRs.ints h2] at h1
  have hi : inV (.int i) (ns.map V.int) = decide (i ∈ ns) := by
    unfold inV
    rw [Bool.eq_iff_iff]
    simp only [List.any_eq_true, List.mem_map, decide_eq_true_eq]
    constructor
    · rintro ⟨v, ⟨y, hy, rfl⟩, h⟩
      have : y = i := by simpa [eqV] using h
      exact this ▸ hy
    · intro h
      exact ⟨.int i, ⟨i, h, rfl⟩, by simp [eqV]⟩
  refine ⟨a, _, rfl, .inr (Same.seqT s h1), rfl, by simp [flatV], ?_⟩
  rw [hi]
  exact k _ H0 H (JH.refl s) rfl⟩
/-- what a dict has at a key, or None -/
def lookD (ks : List Key) (ds : List D) (k : Key) : D := (((ks.zip ds).find? fun kv => decide (kv.1 = k)).map (·.2)).getD .non
theorem lookD_ok {K : PySem.W.Frag} {H : Hp} {k : Key} : ∀ {ks : List Key} {ds : List D} {vs : List V}, DRs K H ds vs → DR K H (lookD ks ds k) ((valV (ks.zip vs) k).getD .non)
  | [], ds, vs, h => by simp only [lookD, valV, List.zip_nil_left, List.find?_nil, Option.map_none, Option.getD_none]; rfl
  | k0 :: ks, [], vs, h => by
    cases (show vs = [] from h)
    simp only [lookD, valV, List.zip_nil_right, List.find?_nil, Option.map_none, Option.getD_none]; rfl
  | k0 :: ks, d :: ds, vs, h => by
    obtain ⟨v, r, rfl, h1, h2⟩ := h
    have ih := lookD_ok (k := k) (ks := ks) h2
    by_cases e : k0 = k
    · simp only [lookD, valV, List.zip_cons_cons, List.find?_cons, e, decide_true, Option.map_some, Option.getD_some]
      exact h1
    · simp only [lookD, valV, List.zip_cons_cons, List.find?_cons, e, decide_false] at ih ⊢
      exact ih
theorem ed_dget1 {o e : Expr} {apos : Pos} {ks : List Key} {ds : List D} {k0 : Key} (hu : X.A.units + 64 < cLine) (ho : ED X ρ o (.dk ks ds)) (he : ED X ρ e (kD k0)) (m : M1 X o "get" apos e pos) : ED X ρ (.Call (.Attribute o "get" apos) [e] [] pos) (lookD ks ds k0) := fun B0 B σ H0 H Q j kk => by
  refine RE.of (pe_dget1 (by omega) pe_star pe_star m) (ho B0 B σ H0 H _ j fun x G0 G g r => ?_)
  obtain ⟨a, vs, rfl, h1, h2, h3⟩ := r
  refine ⟨a, rfl, .inl ⟨_, Same.rd g.sh h1⟩, he B0 B σ G0 G _ (j.grow g) fun y L0 L g2 r2 => ?_⟩
  rw [kD_val r2]
  exact ⟨_, .inl ⟨_, k0, Same.rd g2.sh (Same.rd g2.s0 (Same.rd (Same.refl _) (Same.rd (Same.refl _) h1))), rfl, rfl⟩, kk _ L0 L (g.trans g2) (lookD_ok (DRs.mono g2.s0 _ _ h3))⟩
/-! ### a method of what is shared, that gives a new thing -/
structure FnMO (P : Program) (w : World) (K : PySem.W.Frag) (mg : Str → Option Value) (base : Heap) (cn m : Str) (k : Nat) (R : List D → OC → Prop) : Prop where
  ex : ∃ C f fd ps, PySem.W.nsIn K mainGlobals cn = some (some (.ref C)) ∧ Cls K C ∧ Meth K C m f ∧ FnOk P w K mg base CX0 k f fd ps (spO K R) ∧ Binds K fd ps []
theorem eo_meth {o e : Expr} {apos : Pos} {cn m : Str} {k : Nat} {R : List D → OC → Prop} {es : List Expr} {ds fds : List D} {ns : List Str} {c : OC} {pl : Sem Bool} (G : FnMO X.prog X.w X.K X.mg X.base cn m k R) (hr : Room k X.A) (ho : ED X ρ o (.obj cn ns fds)) (ha : AD X ρ (e :: es) ds) (hR : R (.obj cn ns fds :: ds) c)
    (hm : ns.contains m = false := by decide +kernel)
    (hst : starEach (e :: es) X.env = (false, eval e X.env) :: starEach es X.env := by rfl) (hpl : (backTo pos (starEach es X.env)).any (·.1) = false := by rfl)
    (ht : eval (.Call (.Attribute o m apos) (e :: es) [] pos) X.env = (do
      let ov ← eval o X.env
      standAt apos.atName
      let (f, first) ← holding [ov] (getMethod ov m pl)
      callWith pos f first (backTo pos (starEach (e :: es) X.env)) (backToKw pos (keywordEach [] X.env))) := by rfl) :
    EO X ρ (.Call (.Attribute o m apos) (e :: es) [] pos) c := fun B0 B σ H0 H Q j kk => by
  obtain ⟨C, f, fd, ps, hC, hc, hmt, F, hb⟩ := G.ex
  refine RE.of (pe_meth (E := E0) pe_star hc hmt F hr hb .nil pass0 pa_star hst hpl ht) (ho B0 B σ H0 H _ j fun v G0 G g r => ?_)
  obtain ⟨a, C', dx, vs, rfl, hC', hA, hlen, hvs⟩ := id r
  rw [hC] at hC'; cases hC'
  refine ⟨a, dx, _, rfl, g.sh _ _ hA, zip_none hm, ha B0 B σ G0 G _ (j.grow g) fun ws L0 L g2 r2 => ?_⟩
  rw [List.append_nil]
  exact ⟨L0, .obj cn ns fds :: ds, c, g2.sh, ⟨_, _, rfl, DR.mono g2.s0 _ _ r, r2⟩, hR, fun b o M0 M g3 e1 e2 e3 r3 => kk b o M0 M ((g.trans g2).trans g3) e1 e2 ((g.trans g2).sB.free e3) r3⟩
theorem ws_retE {e : Expr} {c : OC} {Φ : Out → Prop} (h : EO X ρ e c) (hΦ : Φ (.ro c)) : WS X (.Return (some e) pos) ρ Φ := fun B0 B σ H0 H Dn j k =>
  ⟨_, ps_ret pe_star, h B0 B σ H0 H _ j fun a o H0' H' g e1 e2 e3 r => k _ hΦ a o H0' H' (j.hp.trans g) e1 e2 (j.hp.sB.free e3) r⟩
end
end DL

/-! What raises: expressions and statements that let an exception of a class out, defs that raise, try. -/
namespace DL
open PySem PySem.Spec PyProof.Rows L2
/-- e lets out an exception of the class named cn -/
def EX (X : Cx) (ρ : En) (e : Expr) (cn : Str) : Prop := ∀ B0 B σ H0 H (Q : VK) (W : L2.WX), L2.Takes X W → J X.K B0 B σ H0 H ρ → (∀ C H0' H', PySem.W.nsIn X.K mainGlobals cn = some (some (.ref C)) → JH H0 H H0' H' → W (.ref C) none σ H') → RE X e σ H Q
/-- a statement that raises -/
def XS1 (X : Cx) (st : Stmt) (ρ : En) (cn : Str) (ρx : En) : Prop := ∀ B0 B σ H0 H Dn (W : L2.WX), L2.Takes X W → J X.K B0 B σ H0 H ρ → (∀ C σ' H0' H', PySem.W.nsIn X.K mainGlobals cn = some (some (.ref C)) → J X.K B0 B σ' H0' H' ρx → W (.ref C) none σ' H') → RS X st Dn σ H
def XS (X : Cx) (sts : List Stmt) (ρ : En) (cn : Str) (ρx : En) : Prop := ∀ B0 B σ H0 H Dn (W : L2.WX), L2.Takes X W → J X.K B0 B σ H0 H ρ → (∀ C σ' H0' H', PySem.W.nsIn X.K mainGlobals cn = some (some (.ref C)) → J X.K B0 B σ' H0' H' ρx → W (.ref C) none σ' H') → RSs X sts Dn σ H
/-- what is wanted of a statement, when what follows raises -/
def ThenX (X : Cx) (rest : List Stmt) (cn : Str) (ρx : En) : Out → Prop
  | .nx ρ => XS X rest ρ cn ρx
  | _ => False
/-- an own class of errors, over ValueError, without an __init__ of its own -/
structure Xc (K : PySem.W.Frag) (mg : Str → Option Value) (cn : Str) : Prop where
  ex : ∃ C, PySem.W.nsIn K mainGlobals cn = some (some (.ref C)) ∧ mg cn = some (.ref C) ∧ PySem.W.excIn K C [.type "ValueError", .type "Exception", .type "BaseException", .type "object"] "ValueError.__new__" = true ∧ PySem.W.keepIn K (.ref C) = true ∧
    PySem.W.subIn K (.ref C) (.type "BaseException") = some true ∧ PySem.W.typeIn K (.ref C) = some (.type "type") ∧ L2.ExcC K C
section
variable {X : Cx} {ρ ρx : En} {cn : Str} {e : Expr} {st : Stmt} {rest sa sb : List Stmt} {pos : Pos}
theorem xs_head (h : XS1 X st ρ cn ρx) : XS X (st :: rest) ρ cn ρx := fun B0 B σ H0 H Dn W tk j k => ⟨_, pss_cons ps_star pss_star, h B0 B σ H0 H _ W tk j k⟩
theorem xs_cons (h : WS X st ρ (ThenX X rest cn ρx)) : XS X (st :: rest) ρ cn ρx := fun B0 B σ H0 H Dn W tk j k => by
  refine ⟨_, pss_cons ps_star pss_star, h B0 B σ H0 H _ j fun o ho => ?_⟩
  cases o with
  | nx ρ' => exact fun σ' H0' H' j' => ho B0 B σ' H0' H' Dn W tk j' k
  | bk ρ' => exact ho.elim
  | ct ρ' => exact ho.elim
  | rt d => exact ho.elim
  | ro c => exact ho.elim
  | rc d cs => exact ho.elim
theorem xs_if {c : Expr} {k : Bool} (hc : TD X ρ c k) (h1 : k = true → XS X sa ρ cn ρx) (h2 : k = false → XS X sb ρ cn ρx) : XS1 X (.If c sa sb pos) ρ cn ρx := fun B0 B σ H0 H Dn W tk j kk => by
  refine ⟨_, ps_if pt_star pss_star pss_star, hc B0 B σ H0 H _ j fun H0' H' g => ?_⟩
  cases k with
  | true => exact iteT (h1 rfl B0 B σ H0' H' Dn W tk (j.grow g) kk)
  | false => exact iteF (h2 rfl B0 B σ H0' H' Dn W tk (j.grow g) kk)
theorem xs_share (i : Nat) {c : OC} (hi : ρ[i]? = some (.ow c)) (h : XS X rest (ρ.set i (.sh c.d)) cn ρx) : XS X rest ρ cn ρx := fun B0 B σ H0 H Dn W tk j k => by
  obtain ⟨H0', j', _⟩ := j.share hi
  exact h B0 B σ H0' H Dn W tk j' k
theorem xs_expr (h : EX X ρ e cn) (hs : swapsWith e none pos.line X.env = pure false := by rfl) : XS1 X (.Expr e pos) ρ cn ρ := fun B0 B σ H0 H Dn W tk j k =>
  ⟨_, ps_expr pe_star hs, h B0 B σ H0 H _ W tk j fun C L0 L hC g => k C σ L0 L hC (j.grow g)⟩
theorem xs_ret (h : EX X ρ e cn) : XS1 X (.Return (some e) pos) ρ cn ρ := fun B0 B σ H0 H Dn W tk j k =>
  ⟨_, ps_ret pe_star, h B0 B σ H0 H _ W tk j fun C L0 L hC g => k C σ L0 L hC (j.grow g)⟩
theorem xs_set (i : Nat) {x : Str} {pos' : Pos} (hN : X.N.Nodup) (h : EX X ρ e cn) (hi : X.N[i]? = some x := by rfl) (hx : Loc X.env.scope x := by first | exact Or.inl rfl | exact Or.inr rfl)
    (hs : swapsWith e (some (.Name x pos')) pos.line X.env = pure false := by rfl) (hf : X.fn x = true ∨ X.env.scope.names.lookup x = some .local := by first | exact .inl rfl | exact .inr rfl) : XS1 X (.Assign [.Name x pos'] e pos) ρ cn ρ := fun B0 B σ H0 H Dn W tk j k =>
  ⟨_, ps_set hN hi hx pe_star hs hf, h B0 B σ H0 H _ W tk j fun C L0 L hC g => k C σ L0 L hC (j.grow g)⟩
/-- raise cn(e, ..) -/
theorem xs_raise {es : List Expr} {ds : List D} {p pos' : Pos} (xc : Xc X.K X.mg cn) (hg : Gl X cn) (ha : AD X ρ (e :: es) ds) (hl : ds.length ≤ sizeLine := by simp only [List.length_cons, List.length_nil]; decide) (hc : X.calm = true := by rfl) (hdb : (cn == ("__debug__" : Str)) = false := by decide +kernel)
    (he : starEach (e :: es) X.env = (false, eval e X.env) :: starEach es X.env := by rfl) (hpl : (backTo pos (starEach es X.env)).any (·.1) = false := by rfl) :
    XS1 X (.Raise (some (.Call (.Name cn p) (e :: es) [] pos)) none pos') ρ cn ρ := fun B0 B σ H0 H Dn W tk j k => by
  obtain ⟨C, hC, hm, hx, hk, hb, ht, _⟩ := xc.ex
  refine ⟨_, ps_raise hc tk (pmk_ownA PySem.F.excBase_ValueError hx hm hk (raises_own hb ht) hg pa_star hdb he hpl), ha B0 B σ H0 H _ j fun vs G0 G g r => ⟨by rw [← DRs.length r]; exact hl, k C σ G0 G hC (j.grow g)⟩⟩
end
/-! ### defs that raise -/
def spX (K : PySem.W.Frag) (R : List D → Str → Prop) : Sp := fun vs H _ E => ∃ H0 ds cn, Same H0 H ∧ DRs K H0 ds vs ∧ R ds cn ∧ ∀ C H0' H', PySem.W.nsIn K mainGlobals cn = some (some (.ref C)) → JH H0 H H0' H' → E (.ref C) none H'
structure FnX (P : Program) (w : World) (K : PySem.W.Frag) (mg : Str → Option Value) (base : Heap) (x : Str) (k : Nat) (R : List D → Str → Prop) : Prop where
  ex : ∃ f fd ps, FnOk P w K mg base (L2.CX P w) k f fd ps (spX K R) ∧ mg x = some (.ref f) ∧ PySem.W.keepIn K (.ref f) = true ∧ Binds K fd ps []
/-- the context of a def's body that may raise -/
abbrev bxX (P : Program) (w : World) (K : PySem.W.Frag) (mg : Str → Option Value) (base : Heap) (N : List Str) (qual : Str) (st : Stmt) (f : Addr) (cdv : Value) (A : Around) (outer : List Env) (s : Shared) (H : Hp) (E : XK) : Cx :=
  cxOf (L2.CX P w) P w K mg base N qual (defScope st) f cdv A outer s H E
section
variable {P : Program} {w : World} {K : PySem.W.Frag} {mg : Str → Option Value} {base : Heap}
theorem fn_okX {x qual : Str} {st : Stmt} {f : Addr} {fd : FuncData} {N ps : List Str} {k : Nat} {R : List D → Str → Prop} (F : Fun K x qual st f fd) (S : FnScope N ps (defScope st)) (hR : ∀ ds c, R ds c → ds.length = ps.length)
    (h : ∀ ds c, R ds c → ∀ (cdv : Value) (A : Around) (outer : List Env) (s : Shared) (H : Hp) (E : XK), Room k (A.deeper (envOfC qual (defScope st) s.heap.objs.size f cdv)) →
      ∃ ρx, XS (bxX P w K mg base N qual st f cdv A outer s H E) (defBody st) (en N ds) c ρx) : FnOk P w K mg base (L2.CX P w) (k + 1) f fd ps (spX K R) := by
  refine F.okX S (fun vs H Q E hs => ?_) fun cdv A outer s H vs Q E hr hs => ?_
  · obtain ⟨H0, ds, d, _, r, q, _⟩ := hs
    rw [← DRs.length r]; exact hR ds d q
  · obtain ⟨H0, ds, c, s0, r, q, kk⟩ := hs
    have hN : ds.length ≤ N.length := by
      have h1 := hR ds c q
      have h2 := congrArg List.length S.pre
      rw [List.length_take] at h2
      omega
    obtain ⟨ρx, h0⟩ := h ds c q cdv A outer s H E hr
    obtain ⟨t, h1, h2⟩ := h0 H0 H (L2.start N vs) H0 H { nx := fun _ H' => Q .non H', rt := Q } (fun cls d _ H' => E cls d H') (takes_of rfl rfl rfl rfl) (j_start s0 r hN) fun C σ' G0 G hC j' => kk C G0 G hC j'.hp
    exact ⟨t, h1, h2⟩
/-- __init__ raises -/
def spIX (K : PySem.W.Frag) (cn : Str) (R : List D → Str → Prop) : Sp := fun vs H _ E => ∃ H0 a C dx ds xn ws, vs = .ref a :: ws ∧ PySem.W.nsIn K mainGlobals cn = some (some (.ref C)) ∧ Same H0 H ∧ H a = some (.ins C dx []) ∧ H0 a = none ∧ DRs K H0 ds ws ∧ R ds xn ∧
  ∀ Cx H0' H', PySem.W.nsIn K mainGlobals xn = some (some (.ref Cx)) → JH H0 (er H a) H0' H' → E (.ref Cx) none H'
theorem fn_okIX {x qual : Str} {st : Stmt} {f : Addr} {fd : FuncData} {N ps : List Str} {k : Nat} {cn : Str} {R : List D → Str → Prop} (F : Fun K x qual st f fd) (S : FnScope N ps (defScope st)) (hR : ∀ ds c, R ds c → ds.length + 1 = ps.length)
    (h : ∀ a ds c, R ds c → ∀ (cdv : Value) (A : Around) (outer : List Env) (s : Shared) (H : Hp) (E : XK), Room k (A.deeper (envOfC qual (defScope st) s.heap.objs.size f cdv)) →
      ∃ ρx, XS (bxX P w K mg base N qual st f cdv A outer s H E) (defBody st) (enI N a cn ds) c ρx) : FnOk P w K mg base (L2.CX P w) (k + 1) f fd ps (spIX K cn R) := by
  refine F.okX S (fun vs H Q E hs => ?_) fun cdv A outer s H vs Q E hr hs => ?_
  · obtain ⟨H0, a, C, dx, ds, xn, ws, rfl, hC, s0, ha, h0, r, q, _⟩ := hs
    rw [List.length_cons, ← DRs.length r]; exact hR ds xn q
  · obtain ⟨H0, a, C, dx, ds, xn, ws, rfl, hC, s0, ha, h0, r, q, kk⟩ := hs
    have hN : ds.length + 1 ≤ N.length := by
      have h1 := hR ds xn q
      have h2 := congrArg List.length S.pre
      rw [List.length_take] at h2
      omega
    obtain ⟨ρx, h3⟩ := h a ds xn q cdv A outer s H E hr
    obtain ⟨t, h1, h2⟩ := h3 H0 (er H a) (L2.start N (.ref a :: ws)) H0 H { nx := fun _ H' => Q .non H', rt := Q } (fun cls d _ H' => E cls d H') (takes_of rfl rfl rfl rfl) (j_startI s0 hC ha h0 r hN) fun C σ' G0 G hC j' => kk C G0 G hC j'.hp
    exact ⟨t, h1, h2⟩
structure FnIX (P : Program) (w : World) (K : PySem.W.Frag) (mg : Str → Option Value) (base : Heap) (cn : Str) (k : Nat) (R : List D → Str → Prop) : Prop where
  ex : ∃ C f fd ps, PySem.W.nsIn K mainGlobals cn = some (some (.ref C)) ∧ mg cn = some (.ref C) ∧ Mk K C f ∧ FnOk P w K mg base (L2.CX P w) k f fd ps (spIX K cn R) ∧ Binds K fd ps []
end
section
variable {X : Cx} {CX : CXT} {k : Nat} {f C : Addr} {fd : FuncData} {ps : List Str} {sp : Sp} {E : L2.St → XK} {x : Str} {p pos : Pos} {e : Expr} {es : List Expr} {t : TA}
theorem run_makeS {pins : List (Addr × Obj)} {σ : L2.St} {H : Hp} {s : Shared} {Q : VK} {us : List Value} {vs : List V} (M : Mk X.K C f) (F : FnOk X.prog X.w X.K X.mg X.base CX k f fd ps sp) (hr : Room (k + 1) X.A) (hb : Binds X.K fd ps []) 
    (hx : PassesAt CX X σ (E σ)) (I : Inv X pins σ H s) (r : Vals vs us)
    (h : ∀ x dx, H x = none → H dx = none → dx ≠ x → sp (.ref x :: vs) (upd (upd H dx (.own x)) x (.ins C dx [])) (fun v H2 => v = .non ∧ Q (.ref x) H2) (E σ)) :
    wpAny (model X.prog X.w) X.A (call (.ref C) us) (EP X pins σ Q) X.xe s := by
  have hq := h (s.heap.objs.size + 1) s.heap.objs.size (I.hok.fresh (Nat.le_succ _)) (I.hok.fresh (Nat.le_refl _)) (Nat.ne_of_lt (Nat.lt_succ_self _))
  have I2 := Inv.made (C := C) I
  have r2 : Vals (V.ref (s.heap.objs.size + 1) :: vs) (Value.ref (s.heap.objs.size + 1) :: us) := .cons rfl r
  have hl : (Value.ref (s.heap.objs.size + 1) :: us).length = ps.length := by
    have e := r2.length
    rw [F.len _ _ _ _ hq] at e
    exact e.symm
  have b := hb _ (Value.ref (s.heap.objs.size + 1) :: us) I2.kIn (by rw [List.append_nil]; exact hl)
  rw [List.append_nil] at b
  refine wpAny_call (make_map (f := f) I.kIn M.makes M.init (beq_iff_eq.mp M.fn) (codeAny_mono (F.run _ X.stack _ _ ⟨Value.ref (s.heap.objs.size + 1) :: us, []⟩ (Value.ref (s.heap.objs.size + 1) :: us) _ _ (E σ) (hr.make C us [])
    (I2.env0.make C us []) b r2 hq) fun r s' hq' => ?_))
  cases r with
  | error e => exact hx pins _ _ e s' I2 hq'
  | ok fl =>
    cases fl with
    | ret u =>
      obtain ⟨v, H', I3, rv, ev, q3⟩ := I2.after hq'
      subst ev
      exact ⟨rv, ⟨V.ref (s.heap.objs.size + 1), H', I3, rfl, q3⟩⟩
    | next => exact False.elim hq'
    | brk => exact False.elim hq'
    | cont => exact False.elim hq'
def tMakeS (C : Addr) (sp : Sp) (E : L2.St → XK) (t : TA) : TE := fun σ H Q => t σ H fun vs H1 => ∀ x dx, H1 x = none → H1 dx = none → dx ≠ x →
  sp (.ref x :: vs) (upd (upd H1 dx (.own x)) x (.ins C dx [])) (fun v H2 => v = .non ∧ Q (.ref x) H2) (E σ)
theorem pe_makeS (M : Mk X.K C f) (F : FnOk X.prog X.w X.K X.mg X.base CX k f fd ps sp) (hr : Room (k + 1) X.A) (hg : Gl X x) (hm : X.mg x = some (.ref C)) (hb : Binds X.K fd ps []) (hx : ∀ σ, PassesAt CX X σ (E σ))
    (ha : PA X (e :: es) t) (hdb : (x == ("__debug__" : Str)) = false := by decide) (he : starEach (e :: es) X.env = (false, eval e X.env) :: starEach es X.env := by rfl) (hpl : (backTo pos (starEach es X.env)).any (·.1) = false := by rfl) :
    PE X (.Call (.Name x p) (e :: es) [] pos) (tMakeS C sp E t) := by
  refine ⟨fun pins s σ H Q I h => ?_⟩
  refine wpAny_Call_Name_kw (ld_glob I hg hm ?_ hdb)
  refine PySem.W.callWith_K (h₀ := X.base) I.ok.mod.kin M.kp (thn (ha.run pos pins s σ H _ I h) fun us s1 ⟨vs, H1, I1, r, q⟩ => ⟨I1.kIn, ?_⟩) he hpl
  exact run_makeS M F hr hb (hx σ) I1 r q
end
section
variable {X : Cx} {ρ : En} {e : Expr} {es : List Expr} {pos p : Pos}
/-- a call that raises -/
theorem ex_call {x : Str} {k : Nat} {R : List D → Str → Prop} {ds : List D} {cn : Str} (G : FnX X.prog X.w X.K X.mg X.base x k R) (hr : Room k X.A) (hg : Gl X x) (ha : AD X ρ (e :: es) ds) (hR : R ds cn)
    (hdb : (x == ("__debug__" : Str)) = false := by decide) (he : starEach (e :: es) X.env = (false, eval e X.env) :: starEach es X.env := by rfl) (hpl : (backTo pos (starEach es X.env)).any (·.1) = false := by rfl) :
    EX X ρ (.Call (.Name x p) (e :: es) [] pos) cn := fun B0 B σ H0 H Q W tk j k => by
  obtain ⟨f, fd, ps, F, hm, hk, hb⟩ := G.ex
  refine RE.of (pe_callS (E := WE W) F hr hg hm hk hb (fun σ => passAt tk σ) pa_star hdb he hpl) (ha B0 B σ H0 H _ j fun vs G0 G g r => ?_)
  exact ⟨G0, ds, cn, g.sh, r, hR, fun C L0 L hC g2 => k C L0 L hC (g.trans g2)⟩
/-- C(..), whose __init__ raises -/
theorem ex_make {cn : Str} {k : Nat} {R : List D → Str → Prop} {ds : List D} {xn : Str} (G : FnIX X.prog X.w X.K X.mg X.base cn k R) (hr : Room (k + 1) X.A) (hg : Gl X cn) (ha : AD X ρ (e :: es) ds) (hR : R ds xn)
    (hdb : (cn == ("__debug__" : Str)) = false := by decide +kernel) (he : starEach (e :: es) X.env = (false, eval e X.env) :: starEach es X.env := by rfl) (hpl : (backTo pos (starEach es X.env)).any (·.1) = false := by rfl) :
    EX X ρ (.Call (.Name cn p) (e :: es) [] pos) xn := fun B0 B σ H0 H Q W tk j k => by
  obtain ⟨C, f, fd, ps, hC, hm, M, F, hb⟩ := G.ex
  refine RE.of (pe_makeS (E := WE W) M F hr hg hm hb (fun σ => passAt tk σ) pa_star hdb he hpl) (ha B0 B σ H0 H _ j fun vs G0 G g r => ?_)
  intro x dx hx hdx hne
  have g0x : G0 x = none := g.sh.free hx
  have g0d : G0 dx = none := g.sh.free hdx
  have s1 : Same G0 (upd (upd G dx (.own x)) x (.ins C dx [])) := fun b u q => by
    rw [upd_ne (ne_of_none q g0x), upd_ne (ne_of_none q g0d)]
    exact g.sh b u q
  have sE : ∀ b u, G b = some u → er (upd (upd G dx (.own x)) x (.ins C dx [])) x b = some u := fun b u q => by
    have n1 := ne_of_none q hx
    rw [er_ne n1, upd_ne n1, upd_ne (ne_of_none q hdx)]
    exact q
  refine ⟨G0, x, C, dx, ds, xn, vs, rfl, hC, s1, upd_same, g0x, r, hR, fun Cx L0 L hX gg => ?_⟩
  exact k Cx L0 L hX (g.trans ⟨gg.s0, gg.sh, fun b u q => gg.sB b u (sE b u q), fun b u q nt q' => gg.fr b u (sE b u q) nt q'⟩)
end
/-! ### try -/
/-- behind an except suite, its name is gone -/
def Aft (i : Nat) (Φ : Out → Prop) : Out → Prop
  | .nx ρ => Φ (.nx (ρ.set i .no))
  | .bk ρ => Φ (.bk (ρ.set i .no))
  | .ct ρ => Φ (.ct (ρ.set i .no))
  | o => Φ o
section
variable {X : Cx} {ρ ρx : En} {pos : Pos} {Φ : Out → Prop}
/-- try: body, where nothing is raised -/
theorem ws_try0 {body : List Stmt} {h0 : ExceptHandler} {hs : List ExceptHandler} (h : WSs X body ρ Φ) (hx : X.nox = X := by rfl) : WS X (.Try body (h0 :: hs) [] [] pos) ρ Φ := fun B0 B σ H0 H Dn j k =>
  ⟨_, ps_try_thru0 (t := RSs X body) (by rw [hx]; exact pss_star), h B0 B σ H0 H Dn j k⟩
/-- try: body, which raises; except xn as n -/
theorem ws_tryX (i : Nat) {body suite : List Stmt} {b0 : Stmt} {n xn cn : Str} {np pos' : Pos} (hN : X.N.Nodup) (hb : ∀ pn xe, PassesOwn (model X.prog X.w) X.A X.env xe → XS (X.tr pn xe) body ρ cn ρx)
    (hm : ∀ C, PySem.W.nsIn X.K mainGlobals cn = some (some (.ref C)) → ∃ D, Names X xn D ∧ PySem.W.exmOne X.K (.ref C) D = some true) (hcn : ∃ C, PySem.W.nsIn X.K mainGlobals cn = some (some (.ref C)))
    (hs : ∀ a C oe pn, PySem.W.nsIn X.K mainGlobals cn = some (some (.ref C)) → L2.Zc (.ref C) none oe → (∃ vs, oe.data = .fields vs) → WSs (X.suite a ((a, oe) :: pn)) (b0 :: suite) (ρx.set i (.sh (.ad a))) (Aft i Φ))
    (hi : X.N[i]? = some n := by rfl) (hln : X.env.kindOf n = some .local := by rfl) (hst : X.stack = X.env :: X.outer := by rfl) (hf : X.env.frame = some X.env.locals := by rfl) :
    WS X (.Try body [.ExceptHandler (some (.Name xn np)) (some n) (b0 :: suite) pos'] [] [] pos) ρ Φ := fun B0 B σ H0 H Dn j k => by
  obtain ⟨C, hC⟩ := hcn
  obtain ⟨D, hD, hex⟩ := hm C hC
  refine ⟨_, ps_try_as (i := i) (Wout := fun _ _ _ _ => False) (tb := fun W D σ H => ∀ pn xe, L2.Takes (X.tr pn xe) W → PassesOwn (model X.prog X.w) X.A X.env xe → RSs (X.tr pn xe) body D σ H)
    (ts := fun a cls d D σ H => ∀ oe pn, L2.Zc cls d oe → (∃ vs, oe.data = .fields vs) → RSs (X.suite a ((a, oe) :: pn)) (b0 :: suite) D σ H) hst hf hN hi hln hD takes0
    (fun W pn xe tk po => ⟨fun pins s σ H D I h => pss_star.run pins s σ H D I (h pn xe tk po)⟩) (fun a oe cls d pn hz hf => ⟨fun pins s σ H D I h => pss_star.run pins s σ H D I (h oe pn hz hf)⟩), ?_⟩
  intro pn xe tk po
  refine hb pn xe po B0 B σ H0 H Dn _ tk j fun C' σ' L0 L hC' j' => ?_
  have hC'' : PySem.W.nsIn X.K mainGlobals cn = some (some (.ref C')) := hC'
  rw [hC] at hC''; cases hC''
  refine ⟨true, hex, fun _ a ha oe pn' hz hfl => ?_, fun z => nomatch z⟩
  refine hs a C oe pn' hC hz hfl B0 B _ L0 L _ (J.setSh j' (d := .ad a) (v := .ref a) rfl) fun o ho => ?_
  cases o with
  | nx ρ' => exact fun σ'' M0 M j2 => k _ ho _ M0 M (J.setNo j2 i)
  | bk ρ' => exact fun σ'' M0 M j2 => k _ ho _ M0 M (J.setNo j2 i)
  | ct ρ' => exact fun σ'' M0 M j2 => k _ ho _ M0 M (J.setNo j2 i)
  | rt d => exact k _ ho
  | ro c => exact k _ ho
  | rc d cs => exact k _ ho
end
/-! ### isinstance of the exception that a suite holds -/
/-- isinstance(e, c): what K says of the classes named cn and c -/
theorem ed_isE {X : Cx} {a C D : Addr} {oe : Obj} {pn : List (Addr × Obj)} {ρ : En} {e : Expr} {c : Str} {b : Bool} {p1 p2 pos : Pos} (xc : L2.ExcC X.K C) (hz : L2.Zc (.ref C) none oe) (hf : ∃ vs, oe.data = .fields vs) (hg : Gl X "isinstance") (hm : X.mg "isinstance" = none) (hgc : Gl X c) (hmc : X.mg c = some (.ref D))
    (hk : PySem.W.kitOne X.K (.ref C) (.ref D) = some b) (he : ED (X.suite a ((a, oe) :: pn)) ρ e (.ad a)) (hdc : (c == ("__debug__" : Str)) = false := by decide +kernel)
    (h1 : starEach [e, .Name c p2] X.env = (false, eval e X.env) :: starEach [.Name c p2] X.env := by rfl) (h2 : starEach [.Name c p2] X.env = (false, eval (.Name c p2) X.env) :: starEach [] X.env := by rfl) (h3 : (backTo pos (starEach [.Name c p2] X.env)).any (·.1) = false := by rfl) :
    ED (X.suite a ((a, oe) :: pn)) ρ (.Call (.Name "isinstance" p1) [e, .Name c p2] [] pos) (.bl b) := fun B0 B σ H0 H Q j k => by
  refine RE.of (pe_callB (call_isE xc hz hf) hg hm bb_isinstance (pa_cons pe_star (pa_cons (pe_glob (v := .ref D) hgc hmc rfl hdc) pa_nil h2) h1) (by decide) (by decide) h1 h3) (he B0 B σ H0 H _ j fun v G0 G g r => ?_)
  cases (show v = .ref a from r)
  exact ⟨.ref D, .ref D, b, rfl, fun u h => h, hk, k _ G0 G g rfl⟩
/-- isinstance(e, (c1, c2)) -/
theorem call_isET {X : Cx} {a D : Addr} {oe : Obj} {pn : List (Addr × Obj)} (C : L2.ExcC X.K D) (hz : L2.Zc (.ref D) none oe) (hf : ∃ vs, oe.data = .fields vs) : CallR (X.suite a ((a, oe) :: pn)) (.builtin "isinstance")
    (fun xs H Q => ∃ (tp : Addr) (cs : List V) (us : List Value) (b : Bool), xs = [.ref a, .ref tp] ∧ H tp = some (.tup cs) ∧ Paired ClsV cs us ∧ PySem.W.kitAny X.K (.ref D) us = some b ∧ Q (.bl b) H) := by
  intro pins s σ H xs us Q I r h
  obtain ⟨tp, cs, ws, b, rfl, hT, k, e, q⟩ := h
  obtain ⟨u1, u2, rfl, r1, r2⟩ := vals2 r
  cases (show u2 = Value.ref tp from r2)
  cases (show u1 = Value.ref a from r1)
  obtain ⟨hget, _⟩ := I.pin (a, oe) (List.mem_append.mpr (.inl List.mem_cons_self))
  obtain ⟨vs, hv⟩ := hf
  have J : PySem.W.InstAt s.heap a oe D none := by
    obtain ⟨oc, od, oda, osl⟩ := oe
    obtain ⟨h1, h2⟩ := hz
    dsimp only at h1 h2 hv
    subst h1 h2 hv
    exact ⟨hget, rfl, rfl, trivial⟩
  obtain ⟨_, its, rv, o, h1, h2, n, h3⟩ := (show ObjOk X.prog X.w H s.heap tp (.tup cs) from I.hok tp _ hT)
  have e3 := ClsV.all k rv
  subst e3
  obtain ⟨oc, od, dt, sl⟩ := o
  simp only at h2 h3
  subst h2 h3
  exact PySem.W.kia_tup (PySem.W.handS_kitx_exc C.hg C.hk C.hs C.hd C.ha C.hn C.ht C.hm) I.kIn J h1 e (fun z => nomatch z) fun tk => ⟨.bl b, H, I.kept (t' := tk) fun _ _ z => z, rfl, q⟩
theorem ed_isE2 {X : Cx} {a C D1 D2 : Addr} {oe : Obj} {pn : List (Addr × Obj)} {ρ : En} {e : Expr} {c1 c2 : Str} {b : Bool} {kk : Nat} {p1 p2 p3 p4 pos : Pos} (xc : L2.ExcC X.K C) (hz : L2.Zc (.ref C) none oe) (hf : ∃ vs, oe.data = .fields vs) (hg : Gl X "isinstance") (hm : X.mg "isinstance" = none) (hg1 : Gl X c1) (hm1 : X.mg c1 = some (.ref D1)) (hg2 : Gl X c2) (hm2 : X.mg c2 = some (.ref D2))
    (hk : PySem.W.kitAny X.K (.ref C) [.ref D1, .ref D2] = some b) (he : ED (X.suite a ((a, oe) :: pn)) ρ e (.ad a)) (hd1 : (c1 == ("__debug__" : Str)) = false := by decide +kernel) (hd2 : (c2 == ("__debug__" : Str)) = false := by decide +kernel)
    (h1 : starEach [e, .Tuple [.Name c1 p2, .Name c2 p3] kk p4] X.env = (false, eval e X.env) :: starEach [.Tuple [.Name c1 p2, .Name c2 p3] kk p4] X.env := by rfl) (h2 : starEach [.Tuple [.Name c1 p2, .Name c2 p3] kk p4] X.env = (false, eval (.Tuple [.Name c1 p2, .Name c2 p3] kk p4) X.env) :: starEach [] X.env := by rfl)
    (h3 : (backTo pos (starEach [.Tuple [.Name c1 p2, .Name c2 p3] kk p4] X.env)).any (·.1) = false := by rfl) (h4 : starEach [.Name c1 p2, .Name c2 p3] X.env = (false, eval (.Name c1 p2) X.env) :: starEach [.Name c2 p3] X.env := by rfl) (h5 : starEach [.Name c2 p3] X.env = (false, eval (.Name c2 p3) X.env) :: starEach [] X.env := by rfl) :
    ED (X.suite a ((a, oe) :: pn)) ρ (.Call (.Name "isinstance" p1) [e, .Tuple [.Name c1 p2, .Name c2 p3] kk p4] [] pos) (.bl b) := fun B0 B σ H0 H Q j k => by
  refine RE.of (pe_callB (call_isET xc hz hf) hg hm bb_isinstance (pa_cons pe_star (pa_cons (pe_tup (pa_cons (pe_glob (v := .ref D1) hg1 hm1 rfl hd1) (pa_cons (pe_glob (v := .ref D2) hg2 hm2 rfl hd2) pa_nil h5) h4)) pa_nil h2) h1) (by decide) (by decide) h1 h3) (he B0 B σ H0 H _ j fun v G0 G g r => ?_)
  cases (show v = .ref a from r)
  refine ⟨by simp only [List.length_cons, List.length_nil]; decide, fun t ht => ?_⟩
  exact ⟨t, _, [.ref D1, .ref D2], b, rfl, upd_same, .cons (.own D1) (.cons (.own D2) .nil), hk, k _ _ _ (g.trans (JH.own g.sh ht)) rfl⟩
end DL

/-! What raises, by names of classes; f-strings; own lists lent to a call. -/
namespace DL
open PySem PySem.Spec PyProof.Rows L2
/-- the class named cn is caught by except xn -/
structure Xm (K : PySem.W.Frag) (mg : Str → Option Value) (cn xn : Str) : Prop where
  ex : ∃ C D, PySem.W.nsIn K mainGlobals cn = some (some (.ref C)) ∧ mg xn = some (.ref D) ∧ PySem.W.exmOne K (.ref C) (.ref D) = some true
/-- isinstance(e, c), e of the class named cn -/
structure Xi (K : PySem.W.Frag) (mg : Str → Option Value) (cn c : Str) (b : Bool) : Prop where
  ex : ∃ C D, PySem.W.nsIn K mainGlobals cn = some (some (.ref C)) ∧ mg c = some (.ref D) ∧ PySem.W.kitOne K (.ref C) (.ref D) = some b
theorem kit_ref {K : PySem.W.Frag} {C D : Addr} {b : Bool} (hd : PySem.W.hasDictIn K D = true) (ht : PySem.W.typeIn K (.ref D) = some (.type "type")) (h4 : PySem.W.subIn K (.ref C) (.ref D) = some b) (ne : (Value.ref C == Value.ref D) = false) : PySem.W.kitOne K (.ref C) (.ref D) = some b := by
  obtain ⟨cd, hc, _⟩ := PySem.W.any_some hd
  have e2 : ((PySem.W.clsIn K D).isSome && PySem.W.typeIn K (.ref D) == some (.type "type")) = true := by rw [hc, ht] <;> rfl
  unfold PySem.W.kitOne
  rw [if_neg (by rw [ne]; decide)]
  show (if ((PySem.W.clsIn K D).isSome && PySem.W.typeIn K (.ref D) == some (.type "type")) = true then PySem.W.subIn K (.ref C) (.ref D) else none) = some b
  rw [if_pos e2]
  exact h4
section
variable {X : Cx} {ρ ρx : En} {pos : Pos} {Φ : Out → Prop} {cn : Str} {rest sa : List Stmt}
/-- if c: .. raise; what follows raises too, or is never reached -/
theorem xs_ifr {c : Expr} {k : Bool} (hc : TD X ρ c k) (h1 : k = true → XS X sa ρ cn ρx) (h2 : k = false → XS X rest ρ cn ρx) : XS X (.If c sa [] pos :: rest) ρ cn ρx := by
  cases k with
  | true => exact xs_head (xs_if hc (fun _ => h1 rfl) fun h => by cases h)
  | false => exact xs_cons (ws_if hc (fun h => by cases h) fun _ => ws_nil (h2 rfl))
theorem ws_tryN (i : Nat) {body suite : List Stmt} {b0 : Stmt} {n xn : Str} {np pos' : Pos} (hN : X.N.Nodup) (xm : Xm X.K X.mg cn xn) (hg : Gl X xn) (hb : ∀ pn xe, PassesOwn (model X.prog X.w) X.A X.env xe → XS (X.tr pn xe) body ρ cn ρx)
    (hs : ∀ a C oe pn, PySem.W.nsIn X.K mainGlobals cn = some (some (.ref C)) → L2.Zc (.ref C) none oe → (∃ vs, oe.data = .fields vs) → WSs (X.suite a ((a, oe) :: pn)) (b0 :: suite) (ρx.set i (.sh (.ad a))) (Aft i Φ))
    (hi : X.N[i]? = some n := by rfl) (hdb : (xn == ("__debug__" : Str)) = false := by decide +kernel) (hln : X.env.kindOf n = some .local := by rfl) (hst : X.stack = X.env :: X.outer := by rfl) (hf : X.env.frame = some X.env.locals := by rfl) :
    WS X (.Try body [.ExceptHandler (some (.Name xn np)) (some n) (b0 :: suite) pos'] [] [] pos) ρ Φ := by
  obtain ⟨C, D, hC, hD, hx⟩ := xm.ex
  refine ws_tryX i hN hb (fun C' hC' => ?_) ⟨C, hC⟩ hs hi hln hst hf
  rw [hC] at hC'; cases hC'
  exact ⟨.ref D, ⟨hg, hdb, .inl hD⟩, hx⟩
theorem ws_tryS (i : Nat) {body suite : List Stmt} {b0 : Stmt} {n xn : Str} {np pos' : Pos} (hN : X.N.Nodup) (xm : Xm X.K X.mg cn xn) (hg : Gl X xn) (hb : ∀ pn xe, PassesOwn (model X.prog X.w) X.A X.env xe → XS (X.tr pn xe) body ρ cn ρ)
    (hs : ∀ a C oe pn, PySem.W.nsIn X.K mainGlobals cn = some (some (.ref C)) → L2.Zc (.ref C) none oe → (∃ vs, oe.data = .fields vs) → WSs (X.suite a ((a, oe) :: pn)) (b0 :: suite) (ρ.set i (.sh (.ad a))) (Aft i Φ))
    (hi : X.N[i]? = some n := by rfl) (hdb : (xn == ("__debug__" : Str)) = false := by decide +kernel) (hln : X.env.kindOf n = some .local := by rfl) (hst : X.stack = X.env :: X.outer := by rfl) (hf : X.env.frame = some X.env.locals := by rfl) :
    WS X (.Try body [.ExceptHandler (some (.Name xn np)) (some n) (b0 :: suite) pos'] [] [] pos) ρ Φ := ws_tryN i hN xm hg hb hs hi hdb hln hst hf
theorem xs_same {sts : List Stmt} (h : XS X sts ρ cn ρ) : ∃ ρx, XS X sts ρ cn ρx := ⟨ρ, h⟩
theorem ed_isEN {a C : Addr} {oe : Obj} {pn : List (Addr × Obj)} {e : Expr} {c : Str} {b : Bool} {p1 p2 : Pos} (xc : Xc X.K X.mg cn) (xi : Xi X.K X.mg cn c b) (hC : PySem.W.nsIn X.K mainGlobals cn = some (some (.ref C))) (hz : L2.Zc (.ref C) none oe) (hf : ∃ vs, oe.data = .fields vs) (hg : Gl X "isinstance") (hm : X.mg "isinstance" = none) (hgc : Gl X c)
    (he : ED (X.suite a ((a, oe) :: pn)) ρ e (.ad a)) (hdc : (c == ("__debug__" : Str)) = false := by decide +kernel)
    (h1 : starEach [e, .Name c p2] X.env = (false, eval e X.env) :: starEach [.Name c p2] X.env := by rfl) (h2 : starEach [.Name c p2] X.env = (false, eval (.Name c p2) X.env) :: starEach [] X.env := by rfl) (h3 : (backTo pos (starEach [.Name c p2] X.env)).any (·.1) = false := by rfl) :
    ED (X.suite a ((a, oe) :: pn)) ρ (.Call (.Name "isinstance" p1) [e, .Name c p2] [] pos) (.bl b) := by
  obtain ⟨C1, hC1, _, _, _, _, _, hx⟩ := xc.ex
  obtain ⟨C2, D, hC2, hD, hk⟩ := xi.ex
  rw [hC] at hC1 hC2; cases hC1; cases hC2
  exact ed_isE hx hz hf hg hm hgc hD hk he hdc h1 h2 h3
theorem ed_isEN2 {a C : Addr} {oe : Obj} {pn : List (Addr × Obj)} {e : Expr} {c1 c2 : Str} {kk : Nat} {p1 p2 p3 p4 : Pos} (xc : Xc X.K X.mg cn) (x1 : Xi X.K X.mg cn c1 false) (x2 : Xi X.K X.mg cn c2 false) (hC : PySem.W.nsIn X.K mainGlobals cn = some (some (.ref C))) (hz : L2.Zc (.ref C) none oe) (hf : ∃ vs, oe.data = .fields vs) (hg : Gl X "isinstance") (hm : X.mg "isinstance" = none) (hg1 : Gl X c1) (hg2 : Gl X c2)
    (he : ED (X.suite a ((a, oe) :: pn)) ρ e (.ad a)) (hd1 : (c1 == ("__debug__" : Str)) = false := by decide +kernel) (hd2 : (c2 == ("__debug__" : Str)) = false := by decide +kernel)
    (h1 : starEach [e, .Tuple [.Name c1 p2, .Name c2 p3] kk p4] X.env = (false, eval e X.env) :: starEach [.Tuple [.Name c1 p2, .Name c2 p3] kk p4] X.env := by rfl) (h2 : starEach [.Tuple [.Name c1 p2, .Name c2 p3] kk p4] X.env = (false, eval (.Tuple [.Name c1 p2, .Name c2 p3] kk p4) X.env) :: starEach [] X.env := by rfl)
    (h3 : (backTo pos (starEach [.Tuple [.Name c1 p2, .Name c2 p3] kk p4] X.env)).any (·.1) = false := by rfl) (h4 : starEach [.Name c1 p2, .Name c2 p3] X.env = (false, eval (.Name c1 p2) X.env) :: starEach [.Name c2 p3] X.env := by rfl) (h5 : starEach [.Name c2 p3] X.env = (false, eval (.Name c2 p3) X.env) :: starEach [] X.env := by rfl) :
    ED (X.suite a ((a, oe) :: pn)) ρ (.Call (.Name "isinstance" p1) [e, .Tuple [.Name c1 p2, .Name c2 p3] kk p4] [] pos) (.bl false) := by
  obtain ⟨C1, hC1, _, _, _, _, _, hx⟩ := xc.ex
  obtain ⟨C2, D1, hC2, hD1, hk1⟩ := x1.ex
  obtain ⟨C3, D2, hC3, hD2, hk2⟩ := x2.ex
  rw [hC] at hC1 hC2 hC3; cases hC1; cases hC2; cases hC3
  exact ed_isE2 hx hz hf hg hm hg1 hD1 hg2 hD2 (by unfold PySem.W.kitAny; rw [hk1]; simp only; unfold PySem.W.kitAny; rw [hk2]; rfl) he hd1 hd2 h1 h2 h3 h4 h5
/-- f'..{i}' of an int -/
theorem ed_fs2 {z : Str} {i : Int} {v : Expr} {p1 p2 : Pos} (he : ED X ρ v (.int i)) (hz : z.length ≤ sizeLine) (hi : i.natAbs.log2 < 1920) (hl : ((Str.empty ++ z) ++ (toString i : Str)).length ≤ sizeLine) (hl0 : (Str.empty ++ z).length ≤ sizeLine) {kk} :
    ED X ρ (.JoinedStr [.Constant (.str z) kk p1, .FormattedValue v (-1) none p2] pos) (.str ((Str.empty ++ z) ++ (toString i : Str))) := fun B0 B σ H0 H Q j k => by
  refine RE.of (pe_joined (.cons pe_str (.cons (pe_fmt pe_star) .nil))) ?_
  refine ⟨z, rfl, hl0, he B0 B σ H0 H _ j fun u G0 G g r => ?_⟩
  cases (show u = .int i from r)
  exact .inr ⟨i, rfl, hi, _, rfl, hl, k _ G0 G g rfl⟩
end
/-! ### lists that a slot owns, lent to what gives a thing without lists -/
mutual
def noL : D → Bool
  | .lst _ => false
  | .tup ds => noLs ds
  | .dk _ ds => noLs ds
  | .dt _ ds => noLs ds
  | .obj _ _ ds => noLs ds
  | .ptp ds => noLs ds
  | _ => true
def noLs : List D → Bool
  | [] => true
  | d :: ds => noL d && noLs ds
end
theorem er_rd {H : Hp} {a : Addr} {xs : List V} (h : H a = some (.lst xs)) {b : Addr} {u : HO} (hu : ∀ ys, u ≠ .lst ys) (r : Rd H b u) : Rd (er H a) b u := by
  rcases r with r | ⟨o, r⟩
  · have : b ≠ a := fun e => by subst e; rw [h] at r; cases r; exact hu _ rfl
    exact .inl (by rw [er_ne this]; exact r)
  · have : b ≠ a := fun e => by subst e; rw [h] at r; cases r
    exact .inr ⟨o, by rw [er_ne this]; exact r⟩
theorem er_sqT {K : PySem.W.Frag} {H : Hp} {a : Addr} {xs : List V} (h : H a = some (.lst xs)) {b : Addr} {vs : List V} (r : SqT K H b vs) : SqT K (er H a) b vs := by
  rcases r with r | r
  · exact .inl (er_rd h (fun _ z => by cases z) r)
  · exact .inr r
mutual
theorem er_dr {K : PySem.W.Frag} {H : Hp} {a : Addr} {xs : List V} (h : H a = some (.lst xs)) : ∀ (d : D) (v : V), noL d = true → DR K H d v → DR K (er H a) d v
  | .non, v, _, r => r
  | .bl _, v, _, r => r
  | .int _, v, _, r => r
  | .str _, v, _, r => r
  | .ty _, v, _, r => r
  | .lst _, v, n, _ => by cases n
  | .tup ds, v, n, r => by
    obtain ⟨b, vs, h1, h2, h3⟩ := r
    exact ⟨b, vs, h1, er_sqT h h2, er_drs h ds vs n h3⟩
  | .dk ks ds, v, n, r => by
    obtain ⟨b, vs, h1, h2, h4, h3⟩ := r
    exact ⟨b, vs, h1, er_rd h (fun _ z => by cases z) h2, h4, er_drs h ds vs n h3⟩
  | .dt ks ds, v, n, r => by
    obtain ⟨b, vs, h1, h2, h4, h3⟩ := r
    exact ⟨b, vs, h1, er_rd h (fun _ z => by cases z) h2, h4, er_drs h ds vs n h3⟩
  | .obj cn ns ds, v, n, r => by
    obtain ⟨b, C, dx, vs, h1, hn, h2, h4, h3⟩ := r
    have : b ≠ a := fun e => by subst e; rw [h] at h2; cases h2
    exact ⟨b, C, dx, vs, h1, hn, by rw [er_ne this]; exact h2, h4, er_drs h ds vs n h3⟩
  | .ad _, v, _, r => r
  | .ptp ds, v, n, r => by
    obtain ⟨b, o, vs, h1, h2, h4, h3⟩ := r
    have : b ≠ a := fun e => by subst e; rw [h] at h2; cases h2
    exact ⟨b, o, vs, h1, by rw [er_ne this]; exact h2, h4, er_drs h ds vs n h3⟩
theorem er_drs {K : PySem.W.Frag} {H : Hp} {a : Addr} {xs : List V} (h : H a = some (.lst xs)) : ∀ (ds : List D) (vs : List V), noLs ds = true → DRs K H ds vs → DRs K (er H a) ds vs
  | [], vs, _, r => r
  | d :: ds, vs, n, r => by
    obtain ⟨v, w, h1, h2, h3⟩ := r
    have n' : (noL d && noLs ds) = true := n
    rw [Bool.and_eq_true] at n'
    exact ⟨v, w, h1, er_dr h d v n'.1 h2, er_drs h ds w n'.2 h3⟩
end
theorem dr_two {K : PySem.W.Frag} {H : Hp} {d1 d2 e1 e2 : D} {v : V} (r : DR K H (.lst [d1, d2]) v) (h1 : ∀ u, DR K H d1 u → DR K H e1 u) (h2 : ∀ u, DR K H d2 u → DR K H e2 u) : DR K H (.lst [e1, e2]) v := by
  obtain ⟨p, vs, rfl, hp, u, w, rfl, r1, u2, w2, rfl, r2, r3⟩ := r
  exact ⟨p, _, rfl, hp, u, _, rfl, h1 u r1, u2, w2, rfl, h2 u2 r2, r3⟩
theorem J.lend2 {K : PySem.W.Frag} {B0 B H0 H : Hp} {σ : L2.St} {ρ : En} (j : J K B0 B σ H0 H ρ) {i : Nat} {a b : Addr} {da db : List D} (h : ρ[i]? = some (.ox [(a, .lst da), (b, .lst db)] (.lst [.ad a, .ad b]))) :
    ∃ va vb, b ≠ a ∧ H0 a = none ∧ H0 b = none ∧ J K B0 B σ (upd (upd H0 a (.lst va)) b (.lst vb)) H (ρ.set i (.sh (.lst [.lst da, .lst db]))) := by
  obtain ⟨ov, e1, ⟨v, rfl, rv⟩, hcs, hnd⟩ := j.get h
  have hne : b ≠ a := fun z => by
    subst z
    simp at hnd
  obtain ⟨oa, a1, a2, a3, va, rfl, a4⟩ := (hcs (a, .lst da) (by simp)).ex
  obtain ⟨ob, b1, b2, b3, vb, rfl, b4⟩ := (hcs (b, .lst db) (by simp)).ex
  have s0 : Same H0 (upd H0 a (.lst va)) := fun x u e => upd_keep e (fun z => by subst z; rw [a2] at e; cases e)
  obtain ⟨j1, _⟩ := j.shareAt (a := a) (c := .lst da) (s' := .ox [(b, .lst db)] (.lst [.lst da, .ad b])) h e1 (by show a ∈ _; simp) a1 ⟨va, rfl, a4⟩ (fun x w => by
    have w' : x ∈ ([(b, OC.lst db)] : List (Addr × OC)).map (·.1) := w
    simp only [List.map_cons, List.map_nil, List.mem_singleton] at w'
    subst w'
    exact ⟨by show x ∈ _; simp, hne⟩) (fun r => ⟨⟨v, rfl, dr_two (DR.mono s0 _ _ rv) (fun u q => by cases (show u = .ref a from q); exact r) (fun u q => q)⟩, fun p hp => by
      rw [List.mem_singleton] at hp; subst hp
      exact ⟨_, b1, by rw [upd_ne hne]; exact b2, b3, vb, rfl, DRs.mono s0 _ _ b4⟩, by simp⟩)
  have hi : i < ρ.length := (List.getElem?_eq_some_iff.mp h).1
  obtain ⟨j2, _⟩ := j1.shareAt (i := i) (a := b) (c := .lst db) (s := .ox [(b, .lst db)] (.lst [.lst da, .ad b])) (s' := .sh (.lst [.lst da, .lst db])) (by rw [List.getElem?_set_self hi]) e1 (by show b ∈ _; simp) b1 ⟨vb, rfl, DRs.mono s0 _ _ b4⟩ (fun x w => w.elim) (fun r => by
    have s1 : Same (upd H0 a (.lst va)) (upd (upd H0 a (.lst va)) b (.lst vb)) := fun x u e => upd_keep e (fun z => by subst z; rw [upd_ne hne, b2] at e; cases e)
    obtain ⟨ov', e1', ⟨v', e2', rv'⟩, _⟩ := j1.get (i := i) (by rw [List.getElem?_set_self hi])
    rw [e1] at e1'; cases e1'; cases e2'
    exact ⟨v, rfl, dr_two (DR.mono s1 _ _ rv') (fun u q => q) (fun u q => by cases (show u = .ref b from q); exact r)⟩)
  rw [List.set_set] at j2
  exact ⟨va, vb, hne, a2, b2, j2⟩
section
variable {X : Cx} {ρ : En} {pos : Pos} {Φ : Out → Prop} {e : Expr}
/-- two own lists, lent to what makes an instance without lists -/
theorem eo_lend2 (i : Nat) {a b : Addr} {da db : List D} {cn : Str} {ns : List Str} {zs : List D} (hi : ρ[i]? = some (.ox [(a, .lst da), (b, .lst db)] (.lst [.ad a, .ad b]))) (hz : noLs zs = true) (h : EO X (ρ.set i (.sh (.lst [.lst da, .lst db]))) e (.ins cn ns zs)) : EO X ρ e (.ins cn ns zs) := fun B0 B σ H0 H Q j kk => by
  obtain ⟨va, vb, hne, a0, b0, j'⟩ := j.lend2 hi
  refine h B0 B σ _ H Q j' fun p o L0 L g e1 e2 e3 r => ?_
  have la : L0 a = some (.lst va) := g.s0 _ _ (by rw [upd_ne (Ne.symm hne)]; exact upd_same)
  have lb : er L0 a b = some (.lst vb) := by rw [er_ne hne]; exact g.s0 _ _ upd_same
  have keep : ∀ x u, H0 x = some u → x ≠ a ∧ x ≠ b := fun x u q => ⟨fun z => (by subst z; rw [a0] at q; cases q), fun z => (by subst z; rw [b0] at q; cases q)⟩
  refine kk p o (er (er L0 a) b) L ⟨fun x u q => ?_, (er_sub.trans er_sub).trans g.sh, g.sB, fun x u q nt q' => ?_⟩ e1 ?_ e3 ?_
  · obtain ⟨n1, n2⟩ := keep x u q
    rw [er_ne n2, er_ne n1]
    exact g.s0 _ _ (by rw [upd_ne n2, upd_ne n1]; exact q)
  · by_cases xb : x = b
    · subst xb; exact er_same
    · rw [er_ne xb]
      by_cases xa : x = a
      · subst xa; exact er_same
      · rw [er_ne xa]
        exact g.fr x u q nt (by rw [upd_ne xb, upd_ne xa]; exact q')
  · by_cases xb : p = b
    · subst xb; exact er_same
    · rw [er_ne xb]
      by_cases xa : p = a
      · subst xa; exact er_same
      · rw [er_ne xa]; exact e2
  · obtain ⟨vs, C, dx, rfl, hC, hl, hv⟩ := r
    exact ⟨vs, C, dx, rfl, hC, hl, er_drs lb zs vs hz (er_drs la zs vs hz hv)⟩
/-- x = [e1, e2], two new lists in a list -/
theorem ws_set2O (i : Nat) {x : Str} {ea eb : Expr} {da db : List D} {pos' p2 : Pos} (hN : X.N.Nodup) (ha : EO X ρ ea (.lst da)) (hb : EO X ρ eb (.lst db)) (hΦ : ∀ a b, a ≠ b → Φ (.nx (ρ.set i (.ox [(a, .lst da), (b, .lst db)] (.lst [.ad a, .ad b]))))) (hi : X.N[i]? = some x := by rfl) (hx : Loc X.env.scope x := by first | exact Or.inl rfl | exact Or.inr rfl)
    (hs : swapsWith (.List [ea, eb] p2) (some (.Name x pos')) pos.line X.env = pure false := by rfl) (hf : X.fn x = true ∨ X.env.scope.names.lookup x = some .local := by first | exact .inl rfl | exact .inr rfl)
    (s1 : starEach [ea, eb] X.env = (false, eval ea X.env) :: starEach [eb] X.env := by rfl) (s2 : starEach [eb] X.env = (false, eval eb X.env) :: starEach [] X.env := by rfl) : WS X (.Assign [.Name x pos'] (.List [ea, eb] p2) pos) ρ Φ := fun B0 B σ H0 H Dn j k => by
  refine ⟨_, ps_set hN hi hx (pe_lst (pa_cons pe_star (pa_cons pe_star pa_nil s2) s1)) hs hf, ha B0 B σ H0 H _ j fun a oa G0 G g a1 a2 a3 a4 => hb B0 B σ G0 G _ (j.grow g) fun b ob L0 L g2 b1 b2 b3 b4 => ?_⟩
  have hab : a ≠ b := fun z => by subst z; rw [a1] at b3; cases b3
  refine ⟨by simp only [List.length_cons, List.length_nil]; decide, fun l hl => ?_⟩
  have g12 := g.trans g2
  have La : L a = some oa := g2.sB _ _ a1
  have L0a : L0 a = none := g2.fr _ _ a1 (OCR.nt a4) a2
  have g3 : JH L0 L (upd L0 l (.lst [.ref a, .ref b])) (upd L l (.lst [.ref a, .ref b])) := JH.new g2.sh hl
  have la : a ≠ l := fun z => by subst z; rw [hl] at La; cases La
  have lb : b ≠ l := fun z => by subst z; rw [hl] at b1; cases b1
  have j3 := ((j.grow g).grow g2).grow g3
  have s3 : Same L0 (upd L0 l (.lst [.ref a, .ref b])) := g3.s0
  refine k _ (hΦ a b hab) _ _ _ (j3.setTo (i := i) (s := .ox [(a, .lst da), (b, .lst db)] (.lst [.ad a, .ad b])) (ov := some (.ref l)) ⟨⟨.ref l, rfl, l, _, rfl, .inl (.inl upd_same), .ref a, _, rfl, rfl, .ref b, _, rfl, rfl, rfl⟩, fun p hp => ?_, by simp [hab]⟩ fun x w m s' ov' hm q1 q2 w2 => ?_)
  · simp only [List.mem_cons, List.not_mem_nil, or_false] at hp
    rcases hp with rfl | rfl
    · exact ⟨oa, by rw [upd_ne la]; exact La, by rw [upd_ne la]; exact L0a, j.hp.sB.free a3, (OCR.mono (g2.s0.trans s3) a4)⟩
    · exact ⟨ob, by rw [upd_ne lb]; exact b1, by rw [upd_ne lb]; exact b2, (j.hp.sB.trans g.sB).free b3, (OCR.mono s3 b4)⟩
  · have w' : x ∈ ([(a, OC.lst da), (b, OC.lst db)] : List (Addr × OC)).map (·.1) := w
    simp only [List.map_cons, List.map_nil, List.mem_cons, List.not_mem_nil, or_false] at w'
    obtain ⟨o', h1, _⟩ := j.own q1 q2 w2
    rcases w' with rfl | rfl
    · rw [a3] at h1; cases h1
    · have := g.sB _ _ h1
      rw [b3] at this; cases this
end
end DL

/-! A field of self written again; extend of an own list. -/
namespace DL
open PySem PySem.Spec PyProof.Rows L2
theorem putF_old {f : Str} {y : V} : ∀ {ns : List Str} {vs : List V} {m : Nat}, ns[m]? = some f → (ns.take m).contains f = false → ns.length = vs.length → putF f y (ns.zip vs) = ns.zip (vs.set m y)
  | n :: ns, v :: vs, 0, h, _, hl => by
    simp only [List.getElem?_cons_zero, Option.some.injEq] at h
    subst h
    show (if n = n then (n, y) :: ns.zip vs else _) = _
    rw [if_pos rfl]; rfl
  | n :: ns, v :: vs, m + 1, h, hc, hl => by
    rw [List.take_succ_cons, List.contains_cons, Bool.or_eq_false_iff] at hc
    have hne : ¬ (n = f) := fun e => by rw [e] at hc; simp at hc
    show (if n = f then _ else (n, v) :: putF f y (ns.zip vs)) = _
    rw [if_neg hne, putF_old (by simpa using h) hc.2 (by simpa using hl)]
    rfl
  | [], _, _, h, _, _ => by simp at h
  | n :: ns, [], _, _, _, hl => by simp at hl
section
variable {X : Cx} {ρ : En} {e : Expr} {pos : Pos} {cn f : Str} {ns fs : List Str} {ds : List D} {d : D}
/-- self.f = e, a field that stands already -/
theorem ws_setFU (s m : Nat) {a : Addr} {x : Str} {p pos' : Pos} {value : Expr} {Φ : Out → Prop} (kl : Kl X.K X.mg cn fs) (hρ : ρ[s]? = some (.ox [(a, .ins cn ns ds)] (.ad a))) (hv : ED X ρ value d) (hΦ : Φ (.nx (ρ.set s (.ox [(a, .ins cn ns (ds.set m d))] (.ad a)))))
    (hold : ns[m]? = some f := by rfl) (hu : (ns.take m).contains f = false := by decide +kernel) (hf : f ∈ fs := by decide +kernel) (hlt : ns.length < 1000 := by decide)
    (hN : X.N[s]? = some x := by rfl) (hvis : Vis X.env.scope x := by first | exact Or.inl rfl | exact Or.inr (Or.inl rfl) | exact Or.inr (Or.inr rfl)) (hdb : (x == ("__debug__" : Str)) = false := by decide) (hcd : (x == ("__classdict__" : Str)) = false := by decide)
    (hs : swapsWith value (some (.Attribute (.Name x p) f pos')) pos.line X.env = pure false := by rfl) : WS X (.Assign [.Attribute (.Name x p) f pos'] value pos) ρ Φ := fun B0 B σ H0 H Dn j k => by
  refine ⟨_, ps_fld (pe_var hN hvis hdb hcd) pe_star hs, hv B0 B σ H0 H _ j fun v G0 G g r => ?_⟩
  have j1 := j.grow g
  obtain ⟨ov, e1, ⟨v1, rfl, rv⟩, hcs, _⟩ := j1.get hρ
  cases (show v1 = .ref a from rv)
  obtain ⟨o, h1, h2, h3, h4⟩ := (hcs _ (List.mem_singleton_self _)).ex
  obtain ⟨vs, C, dx, rfl, hC, hlen, hvs⟩ := h4
  obtain ⟨C', hC', hm, hc, hk, hna⟩ := kl.ex
  rw [hC] at hC'; cases hC'
  have hl : (ns.zip vs).length < 1000 := by rw [List.length_zip]; omega
  refine ⟨_, e1, a, C, dx, _, rfl, h1, hc.cl, hna f hf, hl, ?_⟩
  rw [putF_old hold hu hlen]
  have hds : DRs X.K G0 (ds.set m d) (vs.set m v) := DRs.set r m hvs
  have j2 := j1.put (c' := .ins cn ns (ds.set m d)) (o := .ins C dx (ns.zip (vs.set m v))) hρ (List.mem_singleton_self _) ⟨vs.set m v, C, dx, rfl, hC, by simp [hlen], hds⟩
  have e : putC [(a, OC.ins cn ns ds)] a (.ins cn ns (ds.set m d)) = [(a, .ins cn ns (ds.set m d))] := by simp [putC]
  rw [e] at j2
  exact k _ hΦ _ _ _ j2
/-- x.extend(e), x the list that slot i owns, e a new list -/
theorem ws_extendL (i : Nat) {x : Str} {zs : List D} {p1 p2 p3 : Pos} {Φ : Out → Prop} (hi : ρ[i]? = some (.ow (.lst ds))) (he : EO X ρ e (.lst zs)) (hl : ds.length + zs.length ≤ sizeLine) (hΦ : Φ (.nx (ρ.set i (.ow (.lst (ds ++ zs))))))
    (hpe : ∀ {ta : TA}, PA X [e] ta → PS X (.Expr (.Call (.Attribute (.Name x p1) "extend" p2) [e] [] p3) pos) (tDrop (tBM X.K "list" rExtend (tVar i) ta)))
    (hs : starEach [e] X.env = (false, eval e X.env) :: starEach [] X.env := by rfl) :
    WS X (.Expr (.Call (.Attribute (.Name x p1) "extend" p2) [e] [] p3) pos) ρ Φ := fun B0 B σ H0 H Dn j k => by
  obtain ⟨ov, e0, a, o, rfl, w1, w2, w3, w4⟩ := j.get hi
  obtain ⟨vs0, rfl, r0⟩ := w4
  refine ⟨_, hpe (pa_cons pe_star pa_nil hs), _, e0, Or.inl ⟨rfl, _, Or.inl (Or.inl w1)⟩, he B0 B σ H0 H _ j fun q o G0 G g y1 y2 y3 y4 => ?_⟩
  obtain ⟨ws, rfl, rw⟩ := y4
  have j1 := j.grow g
  obtain ⟨ov, e1, a', o, e9, w1, w2, w3, w4⟩ := j1.get hi
  rw [e0] at e1; cases e1; cases e9
  obtain ⟨vs, rfl, r'⟩ := w4
  exact ⟨a, q, vs, ws, rfl, rfl, w1, y1, by rw [← DRs.length r', ← DRs.length rw]; exact hl, k _ hΦ _ G0 _ (j1.write hi e0 ⟨_, rfl, DRs.app r' rw⟩)⟩
end
end DL

/-! isinstance of the caught error, a built-in class. -/
namespace DL
open PySem PySem.Spec PyProof.Rows L2
/-- isinstance(e, T), e of the class named cn, T built in -/
structure Xb (K : PySem.W.Frag) (mg : Str → Option Value) (cn : Str) (T : String) (b : Bool) : Prop where
  ex : ∃ C, PySem.W.nsIn K mainGlobals cn = some (some (.ref C)) ∧ PySem.W.kitOne K (.ref C) (.type T) = some b
theorem kit_ty {K : PySem.W.Frag} {C : Addr} {T : String} {b : Bool} (h4 : PySem.W.subIn K (.ref C) (.type T) = some b) (hm : PySem.W.kitMeta T = true := by decide +kernel) : PySem.W.kitOne K (.ref C) (.type T) = some b := by
  unfold PySem.W.kitOne
  rw [if_neg (show ¬ ((Value.ref C == Value.type T) = true) from Bool.false_ne_true)]
  show (if PySem.W.kitMeta T = true then PySem.W.subIn K (.ref C) (.type T) else none) = some b
  rw [if_pos hm]; exact h4
theorem ed_isEB {X : Cx} {ρ : En} {cn : Str} {a C : Addr} {oe : Obj} {pn : List (Addr × Obj)} {e : Expr} {c : Str} {T : String} {b : Bool} {p1 p2 pos : Pos} (xc : Xc X.K X.mg cn) (xb : Xb X.K X.mg cn T b) (hC : PySem.W.nsIn X.K mainGlobals cn = some (some (.ref C))) (hz : L2.Zc (.ref C) none oe) (hf : ∃ vs, oe.data = .fields vs) (hg : Gl X "isinstance") (hm : X.mg "isinstance" = none) (hgc : Gl X c) (hmc : X.mg c = none)
    (hv : bootBuiltins c = some (.type T)) (he : ED (X.suite a ((a, oe) :: pn)) ρ e (.ad a)) (hnn : c ≠ "__name__" := by decide +kernel) (hdc : (c == ("__debug__" : Str)) = false := by decide +kernel)
    (h1 : starEach [e, .Name c p2] X.env = (false, eval e X.env) :: starEach [.Name c p2] X.env := by rfl) (h2 : starEach [.Name c p2] X.env = (false, eval (.Name c p2) X.env) :: starEach [] X.env := by rfl) (h3 : (backTo pos (starEach [.Name c p2] X.env)).any (·.1) = false := by rfl) :
    ED (X.suite a ((a, oe) :: pn)) ρ (.Call (.Name "isinstance" p1) [e, .Name c p2] [] pos) (.bl b) := fun B0 B σ H0 H Q j k => by
  obtain ⟨C1, hC1, _, _, _, _, _, hx⟩ := xc.ex
  obtain ⟨C2, hC2, hk⟩ := xb.ex
  rw [hC] at hC1 hC2; cases hC1; cases hC2
  refine RE.of (pe_callB (call_isE hx hz hf) hg hm bb_isinstance (pa_cons pe_star (pa_cons (pe_bltn (v := .ty T) hgc hmc hv rfl hnn hdc) pa_nil h2) h1) (by decide) (by decide) h1 h3) (he B0 B σ H0 H _ j fun v G0 G g r => ?_)
  cases (show v = .ref a from r)
  exact ⟨.ty T, .type T, b, rfl, fun u h => h, hk, k _ G0 G g rfl⟩
end DL

/-! Three lists that a slot owns: made, lent, appended to. -/
namespace DL
open PySem PySem.Spec PyProof.Rows L2
theorem dr_three {K : PySem.W.Frag} {H : Hp} {d1 d2 d3 e1 e2 e3 : D} {v : V} (r : DR K H (.lst [d1, d2, d3]) v) (h1 : ∀ u, DR K H d1 u → DR K H e1 u) (h2 : ∀ u, DR K H d2 u → DR K H e2 u) (h3 : ∀ u, DR K H d3 u → DR K H e3 u) : DR K H (.lst [e1, e2, e3]) v := by
  obtain ⟨p, vs, rfl, hp, u, w, rfl, r1, u2, w2, rfl, r2, u3, w3, rfl, r3, r4⟩ := r
  exact ⟨p, _, rfl, hp, u, _, rfl, h1 u r1, u2, _, rfl, h2 u2 r2, u3, w3, rfl, h3 u3 r3, r4⟩
theorem J.lend3 {K : PySem.W.Frag} {B0 B H0 H : Hp} {σ : L2.St} {ρ : En} (j : J K B0 B σ H0 H ρ) {i : Nat} {a b c : Addr} {da db dc : List D} (h : ρ[i]? = some (.ox [(a, .lst da), (b, .lst db), (c, .lst dc)] (.lst [.ad a, .ad b, .ad c]))) :
    ∃ va vb vc, b ≠ a ∧ c ≠ a ∧ c ≠ b ∧ H0 a = none ∧ H0 b = none ∧ H0 c = none ∧ J K B0 B σ (upd (upd (upd H0 a (.lst va)) b (.lst vb)) c (.lst vc)) H (ρ.set i (.sh (.lst [.lst da, .lst db, .lst dc]))) := by
  obtain ⟨ov, e1, ⟨v, rfl, rv⟩, hcs, hnd⟩ := j.get h
  simp only [List.map_cons, List.map_nil, List.nodup_cons, List.mem_cons, List.not_mem_nil, or_false, not_or, List.nodup_nil, and_true, not_false_eq_true] at hnd
  obtain ⟨⟨nab, nac⟩, nbc⟩ := hnd
  have hba : b ≠ a := fun z => nab z.symm
  have hca : c ≠ a := fun z => nac z.symm
  have hcb : c ≠ b := fun z => nbc z.symm
  obtain ⟨oa, a1, a2, a3, va, rfl, a4⟩ := (hcs (a, .lst da) (by simp)).ex
  obtain ⟨ob, b1, b2, b3, vb, rfl, b4⟩ := (hcs (b, .lst db) (by simp)).ex
  obtain ⟨oc, c1, c2, c3, vc, rfl, c4⟩ := (hcs (c, .lst dc) (by simp)).ex
  have s0 : Same H0 (upd H0 a (.lst va)) := fun x u e => upd_keep e (fun z => by subst z; rw [a2] at e; cases e)
  have s1 : Same (upd H0 a (.lst va)) (upd (upd H0 a (.lst va)) b (.lst vb)) := fun x u e => upd_keep e (fun z => by subst z; rw [upd_ne hba, b2] at e; cases e)
  have s2 : Same (upd (upd H0 a (.lst va)) b (.lst vb)) (upd (upd (upd H0 a (.lst va)) b (.lst vb)) c (.lst vc)) := fun x u e => upd_keep e (fun z => by subst z; rw [upd_ne hcb, upd_ne hca, c2] at e; cases e)
  have hi : i < ρ.length := (List.getElem?_eq_some_iff.mp h).1
  obtain ⟨j1, _⟩ := j.shareAt (a := a) (c := .lst da) (s' := .ox [(b, .lst db), (c, .lst dc)] (.lst [.lst da, .ad b, .ad c])) h e1 (by show a ∈ _; simp) a1 ⟨va, rfl, a4⟩ (fun x w => by
    have w' : x ∈ ([(b, OC.lst db), (c, OC.lst dc)] : List (Addr × OC)).map (·.1) := w
    simp only [List.map_cons, List.map_nil, List.mem_cons, List.not_mem_nil, or_false] at w'
    rcases w' with rfl | rfl
    · exact ⟨by show x ∈ _; simp, hba⟩
    · exact ⟨by show x ∈ _; simp, hca⟩) (fun r => ⟨⟨v, rfl, dr_three (DR.mono s0 _ _ rv) (fun u q => by cases (show u = .ref a from q); exact r) (fun u q => q) (fun u q => q)⟩, fun p hp => by
      simp only [List.mem_cons, List.not_mem_nil, or_false] at hp
      rcases hp with rfl | rfl
      · exact ⟨_, b1, by rw [upd_ne hba]; exact b2, b3, vb, rfl, DRs.mono s0 _ _ b4⟩
      · exact ⟨_, c1, by rw [upd_ne hca]; exact c2, c3, vc, rfl, DRs.mono s0 _ _ c4⟩, by simp [nbc]⟩)
  obtain ⟨j2, _⟩ := j1.shareAt (i := i) (a := b) (c := .lst db) (s := .ox [(b, .lst db), (c, .lst dc)] (.lst [.lst da, .ad b, .ad c])) (s' := .ox [(c, .lst dc)] (.lst [.lst da, .lst db, .ad c])) (by rw [List.getElem?_set_self hi]) e1 (by show b ∈ _; simp) b1 ⟨vb, rfl, DRs.mono s0 _ _ b4⟩ (fun x w => by
    have w' : x ∈ ([(c, OC.lst dc)] : List (Addr × OC)).map (·.1) := w
    simp only [List.map_cons, List.map_nil, List.mem_singleton] at w'
    subst w'
    exact ⟨by show x ∈ _; simp, hcb⟩) (fun r => by
    obtain ⟨ov', e1', ⟨v', e2', rv'⟩, _⟩ := j1.get (i := i) (by rw [List.getElem?_set_self hi])
    rw [e1] at e1'; cases e1'; cases e2'
    exact ⟨⟨v, rfl, dr_three (DR.mono s1 _ _ rv') (fun u q => q) (fun u q => by cases (show u = .ref b from q); exact r) (fun u q => q)⟩, fun p hp => by
      rw [List.mem_singleton] at hp; subst hp
      exact ⟨_, c1, by rw [upd_ne hcb, upd_ne hca]; exact c2, c3, vc, rfl, DRs.mono (s0.trans s1) _ _ c4⟩, by simp⟩)
  rw [List.set_set] at j2
  obtain ⟨j3, _⟩ := j2.shareAt (i := i) (a := c) (c := .lst dc) (s := .ox [(c, .lst dc)] (.lst [.lst da, .lst db, .ad c])) (s' := .sh (.lst [.lst da, .lst db, .lst dc])) (by rw [List.getElem?_set_self hi]) e1 (by show c ∈ _; simp) c1 ⟨vc, rfl, DRs.mono (s0.trans s1) _ _ c4⟩ (fun x w => w.elim) (fun r => by
    obtain ⟨ov', e1', ⟨v', e2', rv'⟩, _⟩ := j2.get (i := i) (by rw [List.getElem?_set_self hi])
    rw [e1] at e1'; cases e1'; cases e2'
    exact ⟨v, rfl, dr_three (DR.mono s2 _ _ rv') (fun u q => q) (fun u q => q) (fun u q => by cases (show u = .ref c from q); exact r)⟩)
  rw [List.set_set] at j3
  exact ⟨va, vb, vc, hba, hca, hcb, a2, b2, c2, j3⟩
section
variable {X : Cx} {ρ : En} {pos : Pos} {Φ : Out → Prop} {e : Expr}
theorem eo_lend3 (i : Nat) {a b c : Addr} {da db dc : List D} {cn : Str} {ns : List Str} {zs : List D} (hi : ρ[i]? = some (.ox [(a, .lst da), (b, .lst db), (c, .lst dc)] (.lst [.ad a, .ad b, .ad c]))) (hz : noLs zs = true) (h : EO X (ρ.set i (.sh (.lst [.lst da, .lst db, .lst dc]))) e (.ins cn ns zs)) : EO X ρ e (.ins cn ns zs) := fun B0 B σ H0 H Q j kk => by
  obtain ⟨va, vb, vc, hba, hca, hcb, a0, b0, c0, j'⟩ := j.lend3 hi
  refine h B0 B σ _ H Q j' fun p o L0 L g e1 e2 e3 r => ?_
  have la : L0 a = some (.lst va) := g.s0 _ _ (by rw [upd_ne (Ne.symm hca), upd_ne (Ne.symm hba)]; exact upd_same)
  have lb : er L0 a b = some (.lst vb) := by rw [er_ne hba]; exact g.s0 _ _ (by rw [upd_ne (Ne.symm hcb)]; exact upd_same)
  have lc : er (er L0 a) b c = some (.lst vc) := by rw [er_ne hcb, er_ne hca]; exact g.s0 _ _ upd_same
  have nn : ∀ x, H0 x = none → x ≠ a → x ≠ b → x ≠ c → (upd (upd (upd H0 a (.lst va)) b (.lst vb)) c (.lst vc)) x = none := fun x q n1 n2 n3 => by rw [upd_ne n3, upd_ne n2, upd_ne n1]; exact q
  have out : ∀ x, (x = a ∨ x = b ∨ x = c) ∨ (x ≠ a ∧ x ≠ b ∧ x ≠ c) := fun x => by
    by_cases h1 : x = a
    · exact .inl (.inl h1)
    · by_cases h2 : x = b
      · exact .inl (.inr (.inl h2))
      · by_cases h3 : x = c
        · exact .inl (.inr (.inr h3))
        · exact .inr ⟨h1, h2, h3⟩
  have gone : ∀ x, (x = a ∨ x = b ∨ x = c) → er (er (er L0 a) b) c x = none := fun x h => by
    rcases h with rfl | rfl | rfl
    · rw [er_ne (Ne.symm hca), er_ne (Ne.symm hba)]; exact er_same
    · rw [er_ne (Ne.symm hcb)]; exact er_same
    · exact er_same
  have stay : ∀ x, (x ≠ a ∧ x ≠ b ∧ x ≠ c) → er (er (er L0 a) b) c x = L0 x := fun x h => by rw [er_ne h.2.2, er_ne h.2.1, er_ne h.1]
  refine kk p o (er (er (er L0 a) b) c) L ⟨fun x u q => ?_, ((er_sub.trans er_sub).trans er_sub).trans g.sh, g.sB, fun x u q nt q' => ?_⟩ e1 ?_ e3 ?_
  · rcases out x with h | h
    · rcases h with rfl | rfl | rfl
      · rw [a0] at q; cases q
      · rw [b0] at q; cases q
      · rw [c0] at q; cases q
    · rw [stay x h]
      exact g.s0 _ _ (by rw [upd_ne h.2.2, upd_ne h.2.1, upd_ne h.1]; exact q)
  · rcases out x with h | h
    · exact gone x h
    · rw [stay x h]
      exact g.fr x u q nt (nn x q' h.1 h.2.1 h.2.2)
  · rcases out p with h | h
    · exact gone p h
    · rw [stay p h]; exact e2
  · obtain ⟨vs, C, dx, rfl, hC, hl, hv⟩ := r
    exact ⟨vs, C, dx, rfl, hC, hl, er_drs lc zs vs hz (er_drs lb zs vs hz (er_drs la zs vs hz hv))⟩
/-- x = [e1, e2, e3], three new lists in a list -/
theorem ws_set3O (i : Nat) {x : Str} {ea eb ec : Expr} {da db dc : List D} {pos' p2 : Pos} (hN : X.N.Nodup) (ha : EO X ρ ea (.lst da)) (hb : EO X ρ eb (.lst db)) (hc : EO X ρ ec (.lst dc)) (hΦ : ∀ a b c, Φ (.nx (ρ.set i (.ox [(a, .lst da), (b, .lst db), (c, .lst dc)] (.lst [.ad a, .ad b, .ad c]))))) (hi : X.N[i]? = some x := by rfl) (hx : Loc X.env.scope x := by first | exact Or.inl rfl | exact Or.inr rfl)
    (hs : swapsWith (.List [ea, eb, ec] p2) (some (.Name x pos')) pos.line X.env = pure false := by rfl) (hf : X.fn x = true ∨ X.env.scope.names.lookup x = some .local := by first | exact .inl rfl | exact .inr rfl)
    (s1 : starEach [ea, eb, ec] X.env = (false, eval ea X.env) :: starEach [eb, ec] X.env := by rfl) (s2 : starEach [eb, ec] X.env = (false, eval eb X.env) :: starEach [ec] X.env := by rfl) (s3 : starEach [ec] X.env = (false, eval ec X.env) :: starEach [] X.env := by rfl) : WS X (.Assign [.Name x pos'] (.List [ea, eb, ec] p2) pos) ρ Φ := fun B0 B σ H0 H Dn j k => by
  refine ⟨_, ps_set hN hi hx (pe_lst (pa_cons pe_star (pa_cons pe_star (pa_cons pe_star pa_nil s3) s2) s1)) hs hf, ha B0 B σ H0 H _ j fun a oa G0 G g a1 a2 a3 a4 => hb B0 B σ G0 G _ (j.grow g) fun b ob L0 L g2 b1 b2 b3 b4 => hc B0 B σ L0 L _ ((j.grow g).grow g2) fun c oc M0 M g3 c1 c2 c3 c4 => ?_⟩
  have La : L a = some oa := g2.sB _ _ a1
  have L0a : L0 a = none := g2.fr _ _ a1 (OCR.nt a4) a2
  have Ma : M a = some oa := g3.sB _ _ La
  have M0a : M0 a = none := g3.fr _ _ La (OCR.nt a4) L0a
  have Mb : M b = some ob := g3.sB _ _ b1
  have M0b : M0 b = none := g3.fr _ _ b1 (OCR.nt b4) b2
  have hab : a ≠ b := fun z => by subst z; rw [a1] at b3; cases b3
  have hac : a ≠ c := fun z => by subst z; rw [La] at c3; cases c3
  have hbc : b ≠ c := fun z => by subst z; rw [b1] at c3; cases c3
  refine ⟨by simp only [List.length_cons, List.length_nil]; decide, fun l hl => ?_⟩
  have g4 : JH M0 M (upd M0 l (.lst [.ref a, .ref b, .ref c])) (upd M l (.lst [.ref a, .ref b, .ref c])) := JH.new g3.sh hl
  have la : a ≠ l := fun z => by subst z; rw [hl] at Ma; cases Ma
  have lb : b ≠ l := fun z => by subst z; rw [hl] at Mb; cases Mb
  have lc : c ≠ l := fun z => by subst z; rw [hl] at c1; cases c1
  have j4 := (((j.grow g).grow g2).grow g3).grow g4
  have s4 : Same M0 (upd M0 l (.lst [.ref a, .ref b, .ref c])) := g4.s0
  refine k _ (hΦ a b c) _ _ _ (j4.setTo (i := i) (s := .ox [(a, .lst da), (b, .lst db), (c, .lst dc)] (.lst [.ad a, .ad b, .ad c])) (ov := some (.ref l)) ⟨⟨.ref l, rfl, l, _, rfl, .inl (.inl upd_same), .ref a, _, rfl, rfl, .ref b, _, rfl, rfl, .ref c, _, rfl, rfl, rfl⟩, fun p hp => ?_, by simp [hab, hac, hbc]⟩ fun x w m s' ov' hm q1 q2 w2 => ?_)
  · simp only [List.mem_cons, List.not_mem_nil, or_false] at hp
    rcases hp with rfl | rfl | rfl
    · exact ⟨oa, by rw [upd_ne la]; exact Ma, by rw [upd_ne la]; exact M0a, j.hp.sB.free a3, (OCR.mono ((g2.s0.trans g3.s0).trans s4) a4)⟩
    · exact ⟨ob, by rw [upd_ne lb]; exact Mb, by rw [upd_ne lb]; exact M0b, (j.hp.sB.trans g.sB).free b3, (OCR.mono (g3.s0.trans s4) b4)⟩
    · exact ⟨oc, by rw [upd_ne lc]; exact c1, by rw [upd_ne lc]; exact c2, ((j.hp.sB.trans g.sB).trans g2.sB).free c3, (OCR.mono s4 c4)⟩
  · have w' : x ∈ ([(a, OC.lst da), (b, OC.lst db), (c, OC.lst dc)] : List (Addr × OC)).map (·.1) := w
    simp only [List.map_cons, List.map_nil, List.mem_cons, List.not_mem_nil, or_false] at w'
    obtain ⟨o', h1, _⟩ := j.own q1 q2 w2
    rcases w' with rfl | rfl | rfl
    · rw [a3] at h1; cases h1
    · have := g.sB _ _ h1
      rw [b3] at this; cases this
    · have := g2.sB _ _ (g.sB _ _ h1)
      rw [c3] at this; cases this
/-- for y in x: y.append(c), x a list of lists that its slot owns; both slots are forgotten -/
theorem wss_appAll (i m : Nat) {x y : Str} {rest : List Stmt} {cs : List (Addr × OC)} {ps : List Addr} {c : Int} {j0 : Nat} {px py p1 p2 p3 p4 pc : Pos} (hc : X.calm = true) (hN : X.N.Nodup) (hρ : ρ[i]? = some (.ox cs (.lst (ps.map .ad)))) (hps : cs.map (·.1) = ps) (hcs : ∀ p ∈ cs, ∃ ds, p.2 = .lst ds ∧ ds.length ≤ 1000) (hmi : m ≠ i) (hml : m < ρ.length) (hpl : ps.length ≤ 100)
    (h : WSs X rest ((ρ.set i .no).set m .no) Φ)
    (hpe : ∀ {to : TE} {ta : TA}, PE X (.Name y p1) to → PA X [.Constant (.int c) j0 pc] ta → PS X (.Expr (.Call (.Attribute (.Name y p1) "append" p2) [.Constant (.int c) j0 pc] [] p3) p4) (tDrop (tBM X.K "list" rAppend to ta)))
    (hxi : X.N[i]? = some x := by rfl) (hym : X.N[m]? = some y := by rfl) (hvx : Vis X.env.scope x := by first | exact Or.inl rfl | exact Or.inr (Or.inl rfl) | exact Or.inr (Or.inr rfl)) (hdx : (x == ("__debug__" : Str)) = false := by decide) (hcx : (x == ("__classdict__" : Str)) = false := by decide)
    (hvy : Vis X.env.scope y := by first | exact Or.inl rfl | exact Or.inr (Or.inl rfl) | exact Or.inr (Or.inr rfl)) (hdy : (y == ("__debug__" : Str)) = false := by decide) (hcy : (y == ("__classdict__" : Str)) = false := by decide) (hly : Loc X.env.scope y := by first | exact Or.inl rfl | exact Or.inr rfl) (hfy : X.fn y = true ∨ X.env.scope.names.lookup y = some .local := by first | exact .inl rfl | exact .inr rfl)
    (hs : starEach [.Constant (.int c) j0 pc] X.env = (false, eval (.Constant (.int c) j0 pc) X.env) :: starEach [] X.env := by rfl) (hp : PassesOwn (model X.prog X.w) X.A X.env X.xe := by exact PassesOwn.never) (hf : ∀ z, foldedSetIterable (.Name x px) X.env z = pure z := by intro _; rfl) :
    WSs X (.For (.Name y py) (.Name x px) [.Expr (.Call (.Attribute (.Name y p1) "append" p2) [.Constant (.int c) j0 pc] [] p3) p4] [] pos :: rest) ρ Φ := by
  refine ws_cons (ws_for (ds := ps.map .ad) hc (id_list (ed_varX i hρ hxi hvx hdx hcx)) (fun n r => r.length = ρ.length ∧ (∃ cs' : List (Addr × OC), r[i]? = some (.ox cs' (.lst (ps.map .ad))) ∧ cs'.map (·.1) = ps ∧ ∀ p ∈ cs', ∃ ds, p.2 = .lst ds ∧ ds.length ≤ 1000 + n) ∧ ∀ j, j ≠ i → j ≠ m → r[j]? = ρ[j]?) ⟨rfl, ⟨cs, hρ, hps, hcs⟩, fun _ _ _ => rfl⟩ (fun n d r hd hI => ?_) (fun r hI => ?_) hp hf)
  · obtain ⟨hlen, ⟨cs', h1, h2, h3⟩, h4⟩ := hI
    rw [List.getElem?_map] at hd
    cases hq : ps[n]? with
    | none => rw [hq] at hd; cases hd
    | some q =>
      rw [hq] at hd; cases hd
      have hn : n < 100 := by have := (List.getElem?_eq_some_iff.mp hq).1; omega
      have hqm : q ∈ cs'.map (·.1) := by rw [h2]; exact List.mem_of_getElem? hq
      obtain ⟨p, hp', rfl⟩ := List.mem_map.mp hqm
      obtain ⟨ds, e1, e2⟩ := h3 p hp'
      have hpm : (p.1, OC.lst ds) ∈ cs' := by rw [← e1]; exact hp'
      refine ⟨[m], r.set m (.sh (.ad p.1)), dg_name m hN hym hly hfy, ws_one (ws_appendA i (p := p.1) (ds := ds) (d := .int c) (by rw [List.getElem?_set_ne hmi]; exact h1) hpm (ed_var m (by rw [List.getElem?_set_self (by omega)]) hym hvy hdy hcy) ed_int (by rw [sizeLine_eq]; omega) ?_ hpe hs)⟩
      refine ⟨by rw [List.length_set, List.length_set]; exact hlen, ⟨_, by rw [List.getElem?_set_self (by rw [List.length_set]; exact (List.getElem?_eq_some_iff.mp h1).1)], by rw [putC_fst]; exact h2, fun z hz => ?_⟩, fun j hj hj2 => by rw [List.getElem?_set_ne (Ne.symm hj), List.getElem?_set_ne (Ne.symm hj2)]; exact h4 j hj hj2⟩
      unfold putC at hz
      obtain ⟨w, hw, e3⟩ := List.mem_map.mp hz
      by_cases hwe : w.1 = p.1
      · rw [if_pos hwe] at e3
        subst e3
        exact ⟨_, rfl, by rw [List.length_append]; simp only [List.length_cons, List.length_nil]; omega⟩
      · rw [if_neg hwe] at e3
        subst e3
        obtain ⟨ds', q1, q2⟩ := h3 w hw
        exact ⟨ds', q1, by omega⟩
  · obtain ⟨hlen, _, h4⟩ := hI
    refine ws_drop i (ws_drop m ?_)
    have e : (r.set i .no).set m .no = (ρ.set i .no).set m .no := by
      refine List.ext_getElem? fun j => ?_
      by_cases hj2 : j = m
      · subst hj2
        rw [List.getElem?_set_self (by rw [List.length_set]; omega), List.getElem?_set_self (by rw [List.length_set]; exact hml)]
      · rw [List.getElem?_set_ne (Ne.symm hj2), List.getElem?_set_ne (Ne.symm hj2)]
        by_cases hj : j = i
        · subst hj
          have hl : j < ρ.length := (List.getElem?_eq_some_iff.mp hρ).1
          rw [List.getElem?_set_self (by omega), List.getElem?_set_self hl]
        · rw [List.getElem?_set_ne (Ne.symm hj), List.getElem?_set_ne (Ne.symm hj)]
          exact h4 j hj hj2
    rw [e]
    exact h
end
end DL

/-! Cells: shapes, labels, placements. -/
namespace DL
open PySem PySem.Spec PyProof.Rows L2
def layN : List Str := ["well", "active", "poly", "contact", "metal", "via", "top"]
def labN : List Str := ["active", "poly", "metal", "top"]
abbrev Shp := Str × Bx
def shE (s : Shp) : D := .tup [.str s.1, s.2.e]
def shB (s : Shp) : Bool := decide (s.1 ∈ layN) && (decide (s.2.a < s.2.c) && decide (s.2.b < s.2.d))
structure Lab where
  n : Str
  l : Str
  x : Int
  y : Int
def Lab.e (v : Lab) : D := .tup [.str v.n, .str v.l, .int v.x, .int v.y]
def labB (v : Lab) : Bool := nameB v.n && decide (v.l ∈ labN)
structure Pla where
  n : Str
  t : Int
  dx : Int
  dy : Int
  c : Int
  r : Int
  sx : Int
  sy : Int
def Pla.e (v : Pla) : D := .tup [.str v.n, .tup [.int v.t, .int v.dx, .int v.dy], .int v.c, .int v.r, .int v.sx, .int v.sy]
def plaB (v : Pla) : Bool := nameB v.n && ((decide (0 ≤ v.t) && decide (v.t < 8)) && ((decide (1 ≤ v.c) && decide (v.c ≤ 100)) && (decide (1 ≤ v.r) && decide (v.r ≤ 100))))
/-- what stands in a cell -/
abbrev celV (n : Str) (S : List Shp) (L : List Lab) (P : List Pla) : List D := [.str n, .tup (S.map shE), .tup (L.map Lab.e), .tup (P.map Pla.e)]
abbrev celD (n : Str) (S : List Shp) (L : List Lab) (P : List Pla) : D := .obj "Cell" ["name", "shapes", "labels", "placements"] (celV n S L P)
def celB (n : Str) (S : List Shp) (L : List Lab) (P : List Pla) : Bool := nameB n && (S.all shB && (L.all labB && P.all plaB))
theorem cel_bad {n : Str} {S : List Shp} {L : List Lab} {P : List Pla} (bad : celB n S L P = false) (b1 : (!nameB n) = false) (b2 : (!((S.map shB).all id)) = false) (b3 : (!((L.map labB).all id)) = false) (b4 : (!((P.map plaB).all id)) = false) : False := by
  simp only [Bool.not_eq_false'] at b1 b2 b3 b4
  rw [List.all_map] at b2 b3 b4
  have e2 : S.all shB = true := b2
  have e3 : L.all labB = true := b3
  have e4 : P.all plaB = true := b4
  unfold celB at bad
  rw [b1, e2, e3, e4] at bad
  cases bad
structure CelOk (n : Str) (S : List Shp) (L : List Lab) (P : List Pla) : Prop where
  n : nameB n = true
  s : ∀ x ∈ S, shB x = true
  l : ∀ x ∈ L, labB x = true
  p : ∀ x ∈ P, plaB x = true
theorem CelOk.b {n : Str} {S : List Shp} {L : List Lab} {P : List Pla} (ok : CelOk n S L P) : celB n S L P = true := by
  unfold celB
  rw [ok.n, List.all_eq_true.mpr ok.s, List.all_eq_true.mpr ok.l, List.all_eq_true.mpr ok.p]; rfl
/-! ### drawn shapes and labels -/
def layAt (d : Int) : Str := layN.getD (d % 7).toNat ""
theorem layAt_mem (d : Int) : layAt d ∈ layN := by
  unfold layAt
  have h1 := Int.emod_nonneg d (b := 7) (by decide)
  have h2 := Int.emod_lt_of_pos d (b := 7) (by decide)
  have hi : (d % 7).toNat < layN.length := by show _ < 7; omega
  rw [List.getD_eq_getElem?_getD, List.getElem?_eq_getElem hi]
  exact List.getElem_mem hi
def lab4 (d : Int) : Str := labN.getD (d % 4).toNat ""
theorem lab4_mem (d : Int) : lab4 d ∈ labN := by
  unfold lab4
  have h1 := Int.emod_nonneg d (b := 4) (by decide)
  have h2 := Int.emod_lt_of_pos d (b := 4) (by decide)
  have hi : (d % 4).toNat < labN.length := by show _ < 4; omega
  rw [List.getD_eq_getElem?_getD, List.getElem?_eq_getElem hi]
  exact List.getElem_mem hi
theorem at_getC {α : Type} {xs : List α} {f : α → D} {i : Int} {a : α} (h : 0 ≤ i ∧ i < xs.length) : atI (xs.map f) i = some (f (xs.getD i.toNat a)) := by
  have hi : i.toNat < xs.length := by omega
  refine atI_nn h.1 ?_
  rw [List.getElem?_map, List.getElem?_eq_getElem hi, List.getD_eq_getElem?_getD, List.getElem?_eq_getElem hi]
  rfl
def qSh (c m : Int) (k : Nat) : Shp := (layAt (dr c (3 * m + 1) (3 * (k : Int) + 2)), boxOf (dr c (3 * m + 1) (3 * (k : Int))) (dr c (3 * m + 1) (3 * (k : Int) + 1)))
def qShL (c m : Int) (i : Nat) : List Shp := (List.range i).map (qSh c m)
theorem qShL_succ (c m : Int) (i : Nat) : qShL c m (i + 1) = qShL c m i ++ [qSh c m i] := by unfold qShL; rw [List.range_succ, List.map_append]; rfl
theorem qShL_len (c m : Int) (i : Nat) : (qShL c m i).length = i := by unfold qShL; rw [List.length_map, List.length_range]
def qCnt3 (c m : Int) : Nat := (dr c (3 * m + 1) (3 * m) % (m + 1)).toNat
theorem qCnt3_le {c m : Int} (h : 0 ≤ m) : (qCnt3 c m : Int) ≤ m := by
  have h1 := Int.emod_nonneg (dr c (3 * m + 1) (3 * m)) (b := m + 1) (by omega)
  have h2 := Int.emod_lt_of_pos (dr c (3 * m + 1) (3 * m)) (b := m + 1) (by omega)
  unfold qCnt3; omega
theorem qSh_ok (c m : Int) (k : Nat) : shB (qSh c m k) = true := by
  have h := box_lo (dr c (3 * m + 1) (3 * (k : Int))) (dr c (3 * m + 1) (3 * (k : Int) + 1))
  have hm := layAt_mem (dr c (3 * m + 1) (3 * (k : Int) + 2))
  unfold shB
  rw [Bool.and_eq_true, Bool.and_eq_true, decide_eq_true_eq, decide_eq_true_eq, decide_eq_true_eq]
  exact ⟨hm, show bx0 _ < bx1 _ by omega, show by0 _ < by1 _ _ by omega⟩
def qLa (c m : Int) (k : Nat) : Lab := ⟨nmOf (dr c (3 * m + 1) (3 * (k : Int))), lab4 (dr c (3 * m + 1) (3 * (k : Int) + 1)), dr c (3 * m + 1) (3 * (k : Int) + 2) % 17 - 3, dr c (3 * m + 1) (3 * (k : Int) + 2) / 17 % 17 - 3⟩
def qLaL (c m : Int) (i : Nat) : List Lab := (List.range i).map (qLa c m)
theorem qLaL_succ (c m : Int) (i : Nat) : qLaL c m (i + 1) = qLaL c m i ++ [qLa c m i] := by unfold qLaL; rw [List.range_succ, List.map_append]; rfl
theorem qLaL_len (c m : Int) (i : Nat) : (qLaL c m i).length = i := by unfold qLaL; rw [List.length_map, List.length_range]
theorem al_no {α : Type} {p : α → Bool} {l : List α} (h : ∀ x ∈ l, p x = true) (h2 : (!((l.map p).all id)) = true) : False := by
  rw [List.all_map] at h2
  have : l.all p = true := List.all_eq_true.mpr h
  have h3 : (!(l.all p)) = true := h2
  rw [this] at h3
  cases h3
/-! ### what _law_like asks, of mixed tuples -/
def MD : Nat → D → Prop
  | 0, d => (∃ i, d = .int i) ∨ ∃ z, d = .str z
  | k + 1, d => ((∃ i, d = .int i) ∨ ∃ z, d = .str z) ∨ ∃ es, d = .tup es ∧ es.length ≤ 1000 ∧ ∀ e ∈ es, MD k e
class MdC (k : Nat) (d : D) (P : outParam Prop) where
  out : MD k d → P
instance (d : D) : MdC 0 d ((∃ i, d = .int i) ∨ ∃ z, d = .str z) := ⟨fun h => h⟩
instance (k : Nat) (d : D) : MdC (k + 1) d ((∃ i, d = .int i) ∨ (∃ z, d = .str z) ∨ ∃ es, d = .tup es ∧ es.length ≤ 1000 ∧ ∀ e ∈ es, MD k e) := ⟨fun h => by
  rcases h with (h | h) | h
  · exact .inl h
  · exact .inr (.inl h)
  · exact .inr (.inr h)⟩
theorem md_cases {k : Nat} {d : D} {P : Prop} [c : MdC k d P] (h : MD k d) : P := c.out h
/-! ### what is refused -/
def bdNm : List Str := ["", "a234567890123", "Ab", "a_b", "9a", "a b", "a-", "aB1"]
def bdAt (d : Int) : Str := bdNm.getD (d % 8).toNat ""
theorem bdNm_no : ∀ x ∈ bdNm, nameB x = false ∧ x.length ≤ 1000 := by
  have : bdNm.all (fun x => !nameB x && decide (x.length ≤ 1000)) = true := by decide +kernel
  intro x hx
  have h := List.all_eq_true.mp this x hx
  simp only [Bool.and_eq_true, Bool.not_eq_true', decide_eq_true_eq] at h
  exact h
theorem getD_mem {α : Type} {xs : List α} {i : Int} {a : α} (h : 0 ≤ i ∧ i < xs.length) : xs.getD i.toNat a ∈ xs := by
  have hi : i.toNat < xs.length := by omega
  rw [List.getD_eq_getElem?_getD, List.getElem?_eq_getElem hi]
  exact List.getElem_mem hi
theorem bdAt_no (d : Int) : nameB (bdAt d) = false ∧ (bdAt d).length ≤ 1000 := bdNm_no _ (getD_mem (by show _ ∧ _ < (8 : Int); omega))
def bdBx : List Bx := [⟨0, 0, 0, 1⟩, ⟨2, 0, 1, 1⟩, ⟨0, 3, 1, 3⟩, ⟨0, 1, 1, -4⟩]
def bdLy : List Str := ["steel", "", "Metal", "metals"]
def bdL5 : List Str := ["well", "contact", "via", "steel", ""]
def bdShp (d : Int) : List Shp := [(layAt d, bdBx.getD (d / 7 % 4).toNat ⟨0, 0, 0, 1⟩), (bdLy.getD (d % 4).toNat "", ⟨0, 0, 1, 1⟩)]
def bdLab (d : Int) : List Lab := [⟨"a", bdL5.getD (d % 5).toNat "", 0, 0⟩, ⟨bdAt d, "poly", 0, 0⟩]
theorem bdShp_no {d : Int} {s : Shp} (hs : s ∈ bdShp d) : shB s = false := by
  simp only [bdShp, List.mem_cons, List.not_mem_nil, or_false] at hs
  rcases hs with rfl | rfl
  · have h := getD_mem (xs := bdBx) (i := d / 7 % 4) (a := ⟨0, 0, 0, 1⟩) (by show _ ∧ _ < (4 : Int); omega)
    have key : ∀ b ∈ bdBx, (decide (b.a < b.c) && decide (b.b < b.d)) = false := by decide
    unfold shB
    rw [key _ h, Bool.and_false]
  · have h := getD_mem (xs := bdLy) (i := d % 4) (a := "") (by show _ ∧ _ < (4 : Int); omega)
    have key : ∀ b ∈ bdLy, decide (b ∈ layN) = false := by decide +kernel
    unfold shB
    rw [key _ h, Bool.false_and]
theorem bdLab_no {d : Int} {v : Lab} (hs : v ∈ bdLab d) : labB v = false := by
  simp only [bdLab, List.mem_cons, List.not_mem_nil, or_false] at hs
  rcases hs with rfl | rfl
  · have h := getD_mem (xs := bdL5) (i := d % 5) (a := "") (by show _ ∧ _ < (5 : Int); omega)
    have key : ∀ b ∈ bdL5, decide (b ∈ labN) = false := by decide +kernel
    unfold labB
    rw [key _ h, Bool.and_false]
  · unfold labB
    rw [(bdAt_no d).1, Bool.false_and]
def fewI (d : Int) : Int := [0, 101, -1 - d % 7, 102 + d].getD (d / 4 % 4).toNat 0
def trnI (d : Int) : Int := [8, -1, 9 + d].getD (d % 3).toNat 0
theorem fewI_no {d : Int} (h : 0 ≤ d) : fewI d < 1 ∨ 100 < fewI d := by
  unfold fewI
  have : d / 4 % 4 = 0 ∨ d / 4 % 4 = 1 ∨ d / 4 % 4 = 2 ∨ d / 4 % 4 = 3 := by omega
  rcases this with q | q | q | q <;> rw [q]
  · exact .inl (show (0 : Int) < 1 by decide)
  · exact .inr (show (100 : Int) < 101 by decide)
  · exact .inl (show -1 - d % 7 < 1 by omega)
  · exact .inr (show 100 < 102 + d by omega)
theorem trnI_no {d : Int} (h : 0 ≤ d) : trnI d < 0 ∨ 8 ≤ trnI d := by
  unfold trnI
  have : d % 3 = 0 ∨ d % 3 = 1 ∨ d % 3 = 2 := by omega
  rcases this with q | q | q <;> rw [q]
  · exact .inr (show (8 : Int) ≤ 8 by decide)
  · exact .inl (show (-1 : Int) < 0 by decide)
  · exact .inr (show 8 ≤ 9 + d by omega)
def bdPla (v : Pla) (d : Int) : List Pla := [⟨bdAt d, v.t, v.dx, v.dy, v.c, v.r, v.sx, v.sy⟩, ⟨v.n, v.t, v.dx, v.dy, fewI d, v.r, v.sx, v.sy⟩] ++ [⟨v.n, trnI d, v.dx, v.dy, v.c, v.r, v.sx, v.sy⟩] ++ [⟨v.n, v.t, v.dx, v.dy, v.c, fewI d, v.sx, v.sy⟩]
theorem pla_no {v : Pla} (h : nameB v.n = false ∨ (v.t < 0 ∨ 8 ≤ v.t) ∨ (v.c < 1 ∨ 100 < v.c) ∨ (v.r < 1 ∨ 100 < v.r)) : plaB v = false := by
  rw [Bool.eq_false_iff]
  intro z
  unfold plaB at z
  simp only [Bool.and_eq_true, decide_eq_true_eq] at z
  rcases h with h | h | h | h
  · rw [h] at z; exact absurd z.1 (by decide)
  · omega
  · omega
  · omega
theorem bdPla_no {v p : Pla} {d : Int} (h : 0 ≤ d) (hp : p ∈ bdPla v d) : plaB p = false := by
  have h1 := fewI_no h
  have h2 := trnI_no h
  simp only [bdPla, List.cons_append, List.nil_append, List.mem_cons, List.not_mem_nil, or_false] at hp
  rcases hp with rfl | rfl | rfl | rfl
  · exact pla_no (.inl (bdAt_no d).1)
  · exact pla_no (.inr (.inr (.inl h1)))
  · exact pla_no (.inr (.inl h2))
  · exact pla_no (.inr (.inr (.inr h1)))
theorem bdPla_n {v p : Pla} {d : Int} (hp : p ∈ bdPla v d) (h : v.n.length ≤ 1000) : p.n.length ≤ 1000 := by
  simp only [bdPla, List.cons_append, List.nil_append, List.mem_cons, List.not_mem_nil, or_false] at hp
  rcases hp with rfl | rfl | rfl | rfl
  · exact (bdAt_no d).2
  all_goals exact h
theorem bdLab_n {v : Lab} {d : Int} (hs : v ∈ bdLab d) : v.n.length ≤ 1000 := by
  simp only [bdLab, List.mem_cons, List.not_mem_nil, or_false] at hs
  rcases hs with rfl | rfl
  · exact (show ("a" : Str).length ≤ 1000 by decide +kernel)
  · exact (bdAt_no d).2
def putT {α : Type} (V : List α) (t : Int) (b : α) : List α := V.take t.toNat ++ [b] ++ V.drop t.toNat
theorem cutT1 (l : List D) {k : Int} (h : 0 ≤ k) : cutD l (some k) none = l.drop k.toNat := by
  unfold cutD
  show (l.drop (HT.sIx l.length 0 (some k))).take (l.length - HT.sIx l.length 0 (some k)) = _
  have e : HT.sIx l.length 0 (some k) = min k.toNat l.length := by
    unfold HT.sIx; simp only; split <;> omega
  rw [e, List.take_of_length_le (by rw [List.length_drop]; exact Nat.le_refl _)]
  by_cases hk : k.toNat ≤ l.length
  · rw [Nat.min_eq_left hk]
  · rw [Nat.min_eq_right (by omega), List.drop_eq_nil_of_le (Nat.le_refl _), List.drop_eq_nil_of_le (by omega)]
theorem cutT2 (l : List D) {k : Int} (h : 0 ≤ k) : cutD l none (some k) = l.take k.toNat := by
  unfold cutD
  show (l.drop 0).take (HT.sIx l.length l.length (some k) - 0) = _
  have e : HT.sIx l.length l.length (some k) = min k.toNat l.length := by
    unfold HT.sIx; simp only; split <;> omega
  rw [e, List.drop_zero, Nat.sub_zero]
  by_cases hk : k.toNat ≤ l.length
  · rw [Nat.min_eq_left hk]
  · rw [Nat.min_eq_right (by omega), List.take_of_length_le (Nat.le_refl _), List.take_of_length_le (by omega)]
theorem putT_D {α : Type} (f : α → D) (V : List α) {t : Int} (b : α) (h : 0 ≤ t) : cutD (V.map f) none (some t) ++ [f b] ++ cutD (V.map f) (some t) none = (putT V t b).map f := by
  rw [cutT1 _ h, cutT2 _ h]; unfold putT; rw [List.map_append, List.map_append, List.map_drop, List.map_take]; rfl
theorem putT_mem {α : Type} (V : List α) (t : Int) (b : α) : b ∈ putT V t b := by unfold putT; simp
theorem putT_in {α : Type} {V : List α} {t : Int} {b x : α} (h : x ∈ putT V t b) : x = b ∨ x ∈ V := by
  unfold putT at h
  rcases List.mem_append.mp h with h | h
  · rcases List.mem_append.mp h with h | h
    · exact .inr (List.mem_of_mem_take h)
    · exact .inl (List.mem_singleton.mp h)
  · exact .inr (List.mem_of_mem_drop h)
theorem putT_len {α : Type} (V : List α) (t : Int) (b : α) : (putT V t b).length ≤ V.length + V.length + 1 := by
  unfold putT
  rw [List.length_append, List.length_append, List.length_take, List.length_drop]
  simp only [List.length_cons, List.length_nil]
  omega
theorem cutT_len (xs : List D) (lo hi : Option Int) : (cutD xs lo hi).length ≤ xs.length := by
  unfold cutD
  rw [List.length_take, List.length_drop]
  omega
theorem cel_n {n : Str} {S : List Shp} {L : List Lab} {P : List Pla} (h : nameB n = false) : celB n S L P = false := by unfold celB; rw [h]; rfl
theorem cel_s {n : Str} {S : List Shp} {L : List Lab} {P : List Pla} {s : Shp} (h : s ∈ S) (hb : shB s = false) : celB n S L P = false := by
  unfold celB
  have : S.all shB = false := by
    rw [Bool.eq_false_iff]; intro z
    have := List.all_eq_true.mp z s h
    rw [hb] at this; cases this
  rw [this]; simp
theorem cel_l {n : Str} {S : List Shp} {L : List Lab} {P : List Pla} {s : Lab} (h : s ∈ L) (hb : labB s = false) : celB n S L P = false := by
  unfold celB
  have : L.all labB = false := by
    rw [Bool.eq_false_iff]; intro z
    have := List.all_eq_true.mp z s h
    rw [hb] at this; cases this
  rw [this]; simp
theorem cel_p {n : Str} {S : List Shp} {L : List Lab} {P : List Pla} {s : Pla} (h : s ∈ P) (hb : plaB s = false) : celB n S L P = false := by
  unfold celB
  have : P.all plaB = false := by
    rw [Bool.eq_false_iff]; intro z
    have := List.all_eq_true.mp z s h
    rw [hb] at this; cases this
  rw [this]; simp
def pla0 (d : Int) : Pla := ⟨"b1", 3, d, -d, 1 + d % 100, 100 - d % 100, d, 0⟩
/-! ### drawn cells -/
structure Rw where
  n : Str
  S : List Shp
  L : List Lab
  P : List Pla
def rwC (r : Rw) : D := .tup [.str r.n, .lst (r.S.map shE), .lst (r.L.map Lab.e), .lst (r.P.map Pla.e)]
def qDr (ns : List Int) (f : Int) (k : Nat) (i : Int) : Int := dr (cellAt ns (f + 3 * (k : Int))) 20 i
def qNam (ns : List Int) (f : Int) (k : Nat) : Str := nmOf (qDr ns f k 19) ++ Str.ofString (toString (k : Int))
def col5 (d : Int) : Int := ([1, 1, 1, 2, 3] : List Int).getD (d % 5).toNat 0
def lin3 (d : Int) : Int := ([1, 1, 2] : List Int).getD (d / 5 % 3).toNat 0
def qPl (ns : List Int) (f : Int) (k j : Nat) : Pla :=
  ⟨qNam ns f (qDr ns f k (6 * (j : Int) + 1) % (k : Int)).toNat, qDr ns f k (6 * (j : Int) + 2) % 8, qDr ns f k (6 * (j : Int) + 3) % 17 - 8, qDr ns f k (6 * (j : Int) + 3) / 17 % 17 - 8, col5 (qDr ns f k (6 * (j : Int) + 4)), lin3 (qDr ns f k (6 * (j : Int) + 4)), qDr ns f k (6 * (j : Int) + 5) % 13 - 6, qDr ns f k (6 * (j : Int) + 5) / 13 % 13 - 6⟩
def qPls (ns : List Int) (f : Int) (k i : Nat) : List Pla := (List.range i).map (qPl ns f k)
theorem qPls_succ (ns : List Int) (f : Int) (k i : Nat) : qPls ns f k (i + 1) = qPls ns f k i ++ [qPl ns f k i] := by unfold qPls; rw [List.range_succ, List.map_append]; rfl
theorem qPls_len (ns : List Int) (f : Int) (k i : Nat) : (qPls ns f k i).length = i := by unfold qPls; rw [List.length_map, List.length_range]
def qPn (ns : List Int) (f : Int) (k : Nat) : Nat := (min (k : Int) (qDr ns f k 0 % 3)).toNat
theorem qPn_le (ns : List Int) (f : Int) (k : Nat) : qPn ns f k ≤ 2 ∧ qPn ns f k ≤ k := by
  unfold qPn
  have h1 := Int.emod_lt_of_pos (qDr ns f k 0) (show (0 : Int) < 3 by decide)
  omega
def qRw (ns : List Int) (f : Int) (k : Nat) : Rw :=
  ⟨qNam ns f k, qShL (cellAt ns (f + 3 * (k : Int) + 1)) 3 (qCnt3 (cellAt ns (f + 3 * (k : Int) + 1)) 3), qLaL (cellAt ns (f + 3 * (k : Int) + 2)) 2 (qCnt3 (cellAt ns (f + 3 * (k : Int) + 2)) 2), qPls ns f k (qPn ns f k)⟩
def qRws (ns : List Int) (f : Int) (i : Nat) : List Rw := (List.range i).map (qRw ns f)
theorem qRws_succ (ns : List Int) (f : Int) (i : Nat) : qRws ns f (i + 1) = qRws ns f i ++ [qRw ns f i] := by unfold qRws; rw [List.range_succ, List.map_append]; rfl
theorem qRws_len (ns : List Int) (f : Int) (i : Nat) : (qRws ns f i).length = i := by unfold qRws; rw [List.length_map, List.length_range]
theorem qRws_at {ns : List Int} {f i : Int} {n : Nat} (h : 0 ≤ i ∧ i < n) : atI ((qRws ns f n).map rwC) i = some (rwC (qRw ns f i.toNat)) := by
  refine atI_nn h.1 ?_
  have hi : i.toNat < n := by omega
  unfold qRws
  rw [List.getElem?_map, List.getElem?_map, List.getElem?_range hi]
  rfl
theorem nmk_len (d : Int) {k m : Nat} (h : k < m) (hm : m ≤ 20) : (nmOf d).length + (Str.ofString (toString (k : Int))).length ≤ sizeLine := by
  have h1 := tls_len (d / 26 % 6).toNat
  have h2 := (dig_ok (n := k) (by omega)).1
  rw [sizeLine_eq]
  have h3 : (nmOf d).length ≤ 1 + (tls.getD (d / 26 % 6).toNat "").length := by
    unfold nmOf
    rw [len_app]
    exact Nat.add_le_add (Nat.le_of_eq rfl) (Nat.le_refl _)
  omega
theorem MD.up : ∀ {k : Nat} {d : D}, MD k d → MD (k + 1) d
  | 0, d, h => .inl h
  | k + 1, d, h => by
    rcases h with h | ⟨es, e, h1, h2⟩
    · exact .inl h
    · exact .inr ⟨es, e, h1, fun x hx => MD.up (h2 x hx)⟩
theorem md_int {k : Nat} {i : Int} : MD k (.int i) := by
  cases k with
  | zero => exact .inl ⟨i, rfl⟩
  | succ k => exact .inl (.inl ⟨i, rfl⟩)
theorem md_str {k : Nat} {z : Str} : MD k (.str z) := by
  cases k with
  | zero => exact .inr ⟨z, rfl⟩
  | succ k => exact .inl (.inr ⟨z, rfl⟩)
theorem md_tup {k : Nat} {es : List D} (h : es.length ≤ 1000) (h2 : ∀ e ∈ es, MD k e) : MD (k + 1) (.tup es) := .inr ⟨es, rfl, h, h2⟩
theorem md_nil {k : Nat} : ∀ e ∈ ([] : List D), MD k e := fun e he => by simp at he
theorem md_cons {k : Nat} {d : D} {ds : List D} (h : MD k d) (r : ∀ e ∈ ds, MD k e) : ∀ e ∈ d :: ds, MD k e := fun e he => by
  rcases List.mem_cons.mp he with rfl | he
  · exact h
  · exact r e he
theorem md_map {α : Type} {k : Nat} {f : α → D} {l : List α} (h : ∀ x, MD k (f x)) : ∀ e ∈ l.map f, MD k e := fun e he => by
  obtain ⟨x, _, rfl⟩ := List.mem_map.mp he
  exact h x
theorem md_sh {k : Nat} (s : Shp) : MD (k + 2) (shE s) := md_tup (by simp) (md_cons md_str (md_cons (md_tup (by simp) (md_cons md_int (md_cons md_int (md_cons md_int (md_cons md_int md_nil))))) md_nil))
theorem md_la {k : Nat} (v : Lab) : MD (k + 1) v.e := md_tup (by simp) (md_cons md_str (md_cons md_str (md_cons md_int (md_cons md_int md_nil))))
theorem md_pl {k : Nat} (v : Pla) : MD (k + 2) v.e := md_tup (by simp) (md_cons md_str (md_cons (md_tup (by simp) (md_cons md_int (md_cons md_int (md_cons md_int md_nil)))) (md_cons md_int (md_cons md_int (md_cons md_int (md_cons md_int md_nil))))))
theorem md_head {n : Str} {S : List Shp} {L : List Lab} (h1 : S.length ≤ 1000) (h2 : L.length ≤ 1000) : ∀ d ∈ [D.str n, .tup (S.map shE), .tup (L.map Lab.e)], MD 3 d :=
  md_cons md_str (md_cons (md_tup (by rw [List.length_map]; exact h1) (md_map md_sh)) (md_cons (md_tup (by rw [List.length_map]; exact h2) (md_map md_la)) md_nil))
theorem md_pls {P : List Pla} : ∀ d ∈ P.map Pla.e, MD 3 d := md_map (k := 3) (md_pl (k := 1))
theorem noLs_map {α : Type} {f : α → D} (h : ∀ x, noL (f x) = true) : ∀ l : List α, noLs (l.map f) = true
  | [] => rfl
  | x :: l => by show (noL (f x) && noLs (l.map f)) = true; rw [h x, noLs_map h l]; rfl
theorem celV_noL (n : Str) (S : List Shp) (L : List Lab) (P : List Pla) : noLs (celV n S L P) = true := by
  show (true && (noLs (S.map shE) && (noLs (L.map Lab.e) && (noLs (P.map Pla.e) && true)))) = true
  rw [noLs_map (fun _ => rfl), noLs_map (fun _ => rfl), noLs_map (fun _ => rfl)]; rfl
theorem nm_all : ∀ a : Fin 26, ∀ b : Fin 6, preOk ((⟨#[ltr.cps.toList.getD a.val 0]⟩ : Str) ++ tls.getD b.val "") = true := by decide +kernel
theorem nmOf_ok (d : Int) : preOk (nmOf d) = true := by
  have h1 : (d % 26).toNat < 26 := by omega
  have h2 : (d / 26 % 6).toNat < 6 := by omega
  exact nm_all ⟨_, h1⟩ ⟨_, h2⟩
theorem nameB_nm (d : Int) : nameB (nmOf d) = true := by
  have h := nmOf_ok d
  unfold preOk at h
  unfold nameB
  simp only [Bool.and_eq_true, decide_eq_true_eq] at h ⊢
  exact ⟨⟨h.1.1, by omega⟩, h.2⟩
theorem qNam_ok (ns : List Int) (f : Int) {k : Nat} (hk : k < 64) : nameB (qNam ns f k) = true := by
  have h1 := nmOf_ok (qDr ns f k 19)
  have h2 := dig_ok hk
  unfold preOk at h1
  simp only [Bool.and_eq_true, decide_eq_true_eq] at h1
  obtain ⟨⟨l1, l2⟩, f1, a⟩ := h1
  have hd : (Str.ofString (toString (k : Int))).cps.toList.all chB = true := List.all_eq_true.mpr fun c hc => chB_of (List.all_eq_true.mp h2.2 c hc)
  have hne : (nmOf (qDr ns f k 19)).cps.toList ≠ [] := fun e => by
    have : (nmOf (qDr ns f k 19)).cps.toList.length = 0 := by rw [e]; rfl
    rw [Array.length_toList] at this
    have l1' : 1 ≤ (nmOf (qDr ns f k 19)).cps.size := l1
    omega
  have hf : ((nmOf (qDr ns f k 19)).cps.toList ++ (Str.ofString (toString (k : Int))).cps.toList).getD 0 0 = (nmOf (qDr ns f k 19)).cps.toList.getD 0 0 := by
    cases q : (nmOf (qDr ns f k 19)).cps.toList with
    | nil => exact absurd q hne
    | cons c r => rfl
  unfold nameB qNam
  rw [len_app, all_app, a, hd, cps_app, hf, f1]
  simp only [Bool.and_true, Bool.and_eq_true, decide_eq_true_eq]
  omega
theorem name_1000 {n : Str} (h : nameB n = true) : n.length ≤ 1000 := by have := nameB_len h; omega
theorem qPl_ok (ns : List Int) (f : Int) {k : Nat} (j : Nat) (hk : k < 64) (h0 : 0 < k) : plaB (qPl ns f k j) = true := by
  have hc : 1 ≤ col5 (qDr ns f k (6 * (j : Int) + 4)) ∧ col5 (qDr ns f k (6 * (j : Int) + 4)) ≤ 100 := by
    have h := getD_mem (xs := ([1, 1, 1, 2, 3] : List Int)) (i := qDr ns f k (6 * (j : Int) + 4) % 5) (a := 0) (by show _ ∧ _ < (5 : Int); omega)
    have key : ∀ b ∈ ([1, 1, 1, 2, 3] : List Int), 1 ≤ b ∧ b ≤ 100 := by decide
    exact key _ h
  have hl : 1 ≤ lin3 (qDr ns f k (6 * (j : Int) + 4)) ∧ lin3 (qDr ns f k (6 * (j : Int) + 4)) ≤ 100 := by
    have h := getD_mem (xs := ([1, 1, 2] : List Int)) (i := qDr ns f k (6 * (j : Int) + 4) / 5 % 3) (a := 0) (by show _ ∧ _ < (3 : Int); omega)
    have key : ∀ b ∈ ([1, 1, 2] : List Int), 1 ≤ b ∧ b ≤ 100 := by decide
    exact key _ h
  have hn : nameB (qPl ns f k j).n = true := by
    refine qNam_ok ns f ?_
    have := Int.emod_lt_of_pos (qDr ns f k (6 * (j : Int) + 1)) (show (0 : Int) < (k : Int) by omega)
    omega
  unfold plaB
  rw [hn]
  simp only [Bool.true_and, Bool.and_eq_true, decide_eq_true_eq]
  exact ⟨⟨show 0 ≤ qDr ns f k (6 * (j : Int) + 2) % 8 by omega, show qDr ns f k (6 * (j : Int) + 2) % 8 < 8 by omega⟩, hc, hl⟩
theorem qRw_ok (ns : List Int) (f : Int) {k : Nat} (hk : k < 64) : CelOk (qRw ns f k).n (qRw ns f k).S (qRw ns f k).L (qRw ns f k).P := by
  refine ⟨qNam_ok ns f hk, fun x hx => ?_, fun x hx => ?_, fun x hx => ?_⟩
  · obtain ⟨j, _, rfl⟩ := List.mem_map.mp hx
    exact qSh_ok _ _ _
  · obtain ⟨j, _, rfl⟩ := List.mem_map.mp hx
    show (nameB (nmOf _) && decide (lab4 _ ∈ labN)) = true
    rw [nameB_nm, decide_eq_true (lab4_mem _)]; rfl
  · obtain ⟨j, hj, rfl⟩ := List.mem_map.mp hx
    have h1 := List.mem_range.mp hj
    have h2 := qPn_le ns f k
    exact qPl_ok ns f j hk (by omega)
theorem qRw_len (ns : List Int) (f : Int) (k : Nat) : (qRw ns f k).S.length ≤ 3 ∧ (qRw ns f k).L.length ≤ 2 ∧ (qRw ns f k).P.length ≤ 2 := by
  have h1 := qCnt3_le (c := cellAt ns (f + 3 * (k : Int) + 1)) (m := 3) (by decide)
  have h2 := qCnt3_le (c := cellAt ns (f + 3 * (k : Int) + 2)) (m := 2) (by decide)
  have h3 := qPn_le ns f k
  refine ⟨?_, ?_, ?_⟩
  · show (qShL _ _ _).length ≤ 3
    rw [qShL_len]; omega
  · show (qLaL _ _ _).length ≤ 2
    rw [qLaL_len]; omega
  · show (qPls _ _ _ _).length ≤ 2
    rw [qPls_len]; omega
def nmX (n : Str) (d : Int) : Str := ([n, "abcdefgh1234", "q"] : List Str).getD (d % 3).toNat ""
theorem nmX_ok {n : Str} {d : Int} (h : nameB n = true) : nameB (nmX n d) = true := by
  have hm := getD_mem (xs := ([n, "abcdefgh1234", "q"] : List Str)) (i := d % 3) (a := "") (by show _ ∧ _ < (3 : Int); omega)
  have hm2 : nmX n d ∈ ([n, "abcdefgh1234", "q"] : List Str) := hm
  simp only [List.mem_cons, List.not_mem_nil, or_false] at hm2
  rcases hm2 with e | e | e <;> rw [e]
  · exact h
  · decide +kernel
  · decide +kernel
def zzP (d : Int) : Pla := ⟨"zz", 7, 100000000000000000000, -5, 100, 1 + d % 100, -d, 1000000000000000⟩
theorem zzP_ok (d : Int) : plaB (zzP d) = true := by
  unfold plaB
  rw [show nameB (zzP d).n = true from (by decide +kernel : nameB "zz" = true)]
  simp only [Bool.true_and, Bool.and_eq_true, decide_eq_true_eq]
  exact ⟨⟨by show (0 : Int) ≤ 7; decide, by show (7 : Int) < 8; decide⟩, ⟨by show (1 : Int) ≤ 100; decide, by show (100 : Int) ≤ 100; decide⟩, show 1 ≤ 1 + d % 100 by omega, show 1 + d % 100 ≤ 100 by omega⟩
theorem CelOk.more {n : Str} {S : List Shp} {L : List Lab} {P : List Pla} (ok : CelOk n S L P) (d : Int) : CelOk (nmX n d) S L (P ++ [zzP d]) := ⟨nmX_ok ok.n, ok.s, ok.l, fun x hx => by
  rcases List.mem_append.mp hx with h | h
  · exact ok.p x h
  · rw [List.mem_singleton] at h; subst h; exact zzP_ok d⟩
theorem CelOk.ln {n : Str} {S : List Shp} {L : List Lab} {P : List Pla} (ok : CelOk n S L P) : ∀ v ∈ L, v.n.length ≤ 1000 := fun v hv => by
  have h := ok.l v hv
  unfold labB at h
  rw [Bool.and_eq_true] at h
  exact name_1000 h.1
theorem CelOk.pn {n : Str} {S : List Shp} {L : List Lab} {P : List Pla} (ok : CelOk n S L P) : ∀ v ∈ P, v.n.length ≤ 1000 := fun v hv => by
  have h := ok.p v hv
  unfold plaB at h
  rw [Bool.and_eq_true] at h
  exact name_1000 h.1
end DL

/-! items() of a dict whose keys are tuples. -/
namespace DL
open PySem PySem.Spec PyProof.Rows L2
section
variable {X : Cx} {pins : List (Addr × Obj)} {σ : L2.St} {H : Hp} {s : Shared} {d : Addr} {o : Obj}
theorem frzT2 {kvs : List (List Key × V)} (I : Inv X pins σ H s) (h : H d = some (.frz o (.dT kvs))) :
    (d == sysModules) = false ∧ s.heap.get? d = some o ∧ o.ExactDict ∧ ∃ (es : Array DictEntry) (ep : Nat), o.data = .dict es ep ∧ es.size = kvs.length ∧
      ∀ (i : Nat) (k : List Key) (v : V), kvs[i]? = some (k, v) → ∃ (en : DictEntry) (q : Addr), es[i]? = some en ∧ en.key = .ref q ∧ H q = some (.tup (k.map kV)) ∧ RelV v en.val := by
  obtain ⟨hd, z, hs, xs, pr, o', es, ep, ho, hx, hdt, he, _⟩ := I.hok d _ h
  rw [hd] at ho
  cases ho
  refine ⟨hs, hd, hx, es, ep, hdt, ?_, fun i k v e => ?_⟩
  · have l1 : es.size = xs.length := size_of_entries he
    have l2 : kvs.length = xs.length := Paired.length pr
    omega
  · obtain ⟨b, hb, e1, e2, e3⟩ := paired_get pr e
    have q := entry_at he i
    rw [hb] at q
    exact ⟨_, b.2.1, q, rfl, e2, e3⟩
/-- the pairs of the locked dict at d, each a new tuple of the key's own tuple and the value -/
def ItiT (d : Addr) (o : Obj) (kvs : List (List Key × V)) : It :=
  ⟨fun i H => H d = some (.frz o (.dT kvs)) ∧ i < kvs.length, fun i H x H' => ∃ T k v q, kvs[i]? = some (k, v) ∧ x = .ref T ∧ H T = none ∧ H q = some (.tup (k.map kV)) ∧ H' = upd H T (.tup [.ref q, v]), fun i H => H d = some (.frz o (.dT kvs)) ∧ kvs.length ≤ i⟩
end
section
variable {P : Program} {w : World} {K : PySem.W.Frag} {d : Addr} {o : Obj} {es : Array DictEntry} {ep : Nat}
theorem turn_itemsT {kvs : List (List Key × V)} {elts : List Expr} {kk : Nat} {tpos : Pos} (it : Addr) (hod : o.data = .dict es ep) :
    Turn P w K (.Tuple elts kk tpos) (ItiT d o kvs) [it] it (fun i h => ∃ ok ov, IsItemIter h it d i kvs.length ep ok ov) where
  mem := by simp
  obj := fun i h st b hb => by
    have e : b = it := by simpa using hb
    subst e
    obtain ⟨ok, ov, e⟩ := st
    exact ⟨_, e, fun v z => nomatch z⟩
  keep := fun i h h' st k => let ⟨ok, ov, e⟩ := st; ⟨ok, ov, k it (by simp) _ e⟩
  item := by
    intro X hP hw hK hc i pins s σ H E I hf st hg
    subst hP hw hK
    obtain ⟨hd, hi⟩ := hg
    obtain ⟨hs, hgd, hx, es', ep', hdt, hsz, ent⟩ := frzT2 I hd
    obtain ⟨rfl, rfl⟩ := dict_ep hod hdt
    obtain ⟨⟨k, v⟩, hkv⟩ : ∃ p, kvs[i]? = some p := ⟨kvs[i], List.getElem?_eq_getElem hi⟩
    obtain ⟨en, q, hen, hkey, hq, rv⟩ := ent i k v hkv
    obtain ⟨ok, ov, he⟩ := st
    rw [← hsz] at he
    have hlt : it < s.heap.objs.size := Heap.lt_size he
    have hie : i < es'.size := by omega
    have hge : es'[i] = en := by
      have := Array.getElem?_eq_getElem hie
      rw [hen] at this
      exact (Option.some.inj this).symm
    refine DT.nextI he ⟨o, hgd, hx, hdt⟩ hie fun h' ho hT hz hk => ?_
    rw [hge, hkey] at ho hT
    refine ⟨_, rfl, wpAny_letOwnedTupleGo_items (s := { s with heap := h' }) ho fun h'' he' sb => ?_⟩
    have hT2 : h''.get? s.heap.objs.size = some { cls := .type "tuple", data := .seq #[.ref q, en.val] } := (sb.2 _ (Nat.ne_of_gt hlt)).trans hT
    have new : ObjOk X.prog X.w (upd H s.heap.objs.size (.tup [.ref q, v])) h'' s.heap.objs.size (.tup [.ref q, v]) :=
      ⟨by show 2 ≤ sizeLine; decide, [.ref q, en.val], .cons rfl (.cons rv .nil), ⟨_, hT2, rfl, _, rfl⟩⟩
    have I1 : Inv X pins σ (upd H s.heap.objs.size (.tup [.ref q, v])) { s with heap := h'' } :=
      I.turnedNew (t' := s.toks) (ch := [it]) (fun b ob hb e => (sb.2 b (by simpa using hb)).trans (hk b ob (by simpa using hb) e)) hf (Nat.le_refl _) new
    refine ⟨.ref s.heap.objs.size, _, I1, rfl, ⟨_, k, v, q, hkv, rfl, I.hok.fresh (Nat.le_refl _), hq, rfl⟩, ⟨.ref q, en.val, ?_⟩, fun b hb => ?_⟩
    · rw [← hsz]; exact he'
    · have e : b = it := by simpa using hb
      rw [e, upd_ne (Nat.ne_of_lt hlt)]
      exact (hf it (by simp)).1
  done := by
    intro X hP hw hK hc i pins s σ H E I hf st hg
    subst hP hw hK
    obtain ⟨hd, hi⟩ := hg
    obtain ⟨f0, f1, f2, f3, f4, f5⟩ := hf it (by simp)
    obtain ⟨hs, hgd, hx, es', ep', hdt, hsz, ent⟩ := frzT2 I hd
    obtain ⟨rfl, rfl⟩ := dict_ep hod hdt
    obtain ⟨ok, ov, he⟩ := st
    rw [← hsz] at he
    exact DT.endI (I.ok.hd hc) he ⟨o, hgd, hx, hdt⟩ (by omega) fun h' eb => ⟨rfl, I.turned (t' := s.toks) (fun b ob hb e => eb b ob hb e) f0 f1 f3 f4 f5⟩
  self := fun A i s Q E st h => let ⟨_, _, e⟩ := st; PySem.W.kcp_self e h
end
def iItemsT (td : TE) : TI := fun σ H R => td σ H fun x H1 => ∃ d o kvs, x = .ref d ∧ H1 d = some (.frz o (.dT kvs)) ∧ R (ItiT d o kvs) H1
theorem pi_itemsT {X : Cx} {e : Expr} {td : TE} {apos cpos : Pos} {elts : List Expr} {kk : Nat} {tpos : Pos} (he : PE X e td) (hbase : attributeBase e "items" X.env (eval e X.env) = eval e X.env := by rfl) (hline : (apos.endLine == cpos.line) = true := by rfl) :
    PI X (.Tuple elts kk tpos) (.Call (.Attribute e "items" apos) [] [] cpos) (iItemsT td) := by
  refine ⟨fun pins s σ H R I h => ?_⟩
  refine wpAny_Call_method (T := "dict") (id := "dict.items") hbase rfl hline F.plainAttrs_dict F.slot_dict_items F.type_dict_items (thn (he.run pins s σ H _ I h) fun u s1 ⟨x, H1, I1, rx, d, o, kvs, ex, hd, q⟩ => ?_)
  subst ex
  obtain rfl : u = Value.ref d := rx
  obtain ⟨hs, hgd, hx, es, ep, hdt, hsz, ent⟩ := frzT2 I1 hd
  have raw : DT.Raw s1.heap d es ep := ⟨o, hgd, hx, hdt⟩
  refine ⟨raw.typeIs, fun b q => by cases q; exact ⟨o, hgd, hx.2.1⟩, ?_⟩
  have I2 : Inv X pins σ H1 { s1 with heap := s1.heap.push { cls := .type "dict_items", data := .fields #[.ref d] } } := I1.kept (t' := s1.toks) fun b ob q => Heap.get?_push_of_some _ q
  have fin : wpAny (model X.prog X.w) X.A (pyIter (.ref s1.heap.objs.size)) (PIE X pins σ (.Tuple elts kk tpos) R) X.xe { s1 with heap := s1.heap.push { cls := .type "dict_items", data := .fields #[.ref d] } } := by
    refine DT.iterI (s := { s1 with heap := s1.heap.push { cls := .type "dict_items", data := .fields #[.ref d] } }) ⟨_, Heap.get?_push_size _ rfl, rfl, rfl⟩ (raw.push _) (pi_one (tk := s1.toks) I2 _ (turn_itemsT _ hdt) ⟨.none, .none, ?_⟩ q)
    rw [← hsz]
    exact Heap.get?_push_size _ rfl
  show wpAny _ _ (callWith cpos (.builtin "dict.items") [.ref d] [] []) _ X.xe s1
  exact method_meetsIn F.slot_dict_items F.entry_dict_items rfl (PySem.evalArgs_none ⟨rfl, raw.typeIs, F.args_dict_items_1 _, _, DT.meetsItems (es := es) (ep := ep) hs, ⟨raw, fin⟩⟩)
end DL
namespace DL
open PySem PySem.Spec PyProof.Rows L2
/-- the items of a dict with tuple keys, as data -/
def itD (ks : List (List Key)) (ds : List D) : List D := (ks.zip ds).map fun q => .tup [.tup (q.1.map kD), q.2]
theorem itD_len {ks : List (List Key)} {ds : List D} (h : ks.length = ds.length) : (itD ks ds).length = ks.length := by unfold itD; rw [List.length_map, List.length_zip]; omega
theorem keys_dr {K : PySem.W.Frag} {H : Hp} : ∀ k : List Key, DRs K H (k.map kD) (k.map kV)
  | [] => rfl
  | .inl i :: k => ⟨_, _, rfl, rfl, keys_dr k⟩
  | .inr x :: k => ⟨_, _, rfl, rfl, keys_dr k⟩
theorem walk_itemsT {d : Addr} {o : Obj} {kvs : List (List Key × V)} : Walk (ItiT d o kvs) kvs.length (fun H => H d = some (.frz o (.dT kvs)))
    (fun i H x H' => ∃ T k v q, kvs[i]? = some (k, v) ∧ x = .ref T ∧ H T = none ∧ H q = some (.tup (k.map kV)) ∧ H' = upd H T (.tup [.ref q, v])) :=
  ⟨fun _ _ hi q => ⟨q, hi⟩, fun _ q => ⟨q, Nat.le_refl _⟩, fun _ _ _ _ _ _ y => y⟩
theorem zip_get {α β : Type} : ∀ {as : List α} {bs : List β} {i : Nat} {a : α} {b : β}, (as.zip bs)[i]? = some (a, b) → as[i]? = some a ∧ bs[i]? = some b
  | [], _, i, a, b, h => by simp at h
  | _ :: _, [], i, a, b, h => by simp at h
  | x :: as, y :: bs, 0, a, b, h => by simp at h; simp [h.1, h.2]
  | x :: as, y :: bs, i + 1, a, b, h => by
    have := zip_get (as := as) (bs := bs) (i := i) (a := a) (b := b) (by simpa using h)
    simpa using this
theorem dwj_items {K : PySem.W.Frag} {H0 H : Hp} {a : Addr} {od : Obj} {ks : List (List Key)} {ds : List D} {vs : List V} (h : H a = some (.frz od (.dT (ks.zip vs)))) (hl : ks.length = vs.length) (r : DRs K H0 ds vs) : DWalkJ K (ItiT a od (ks.zip vs)) H0 H (itD ks ds) := by
  have hds : ks.length = ds.length := by rw [hl, DRs.length r]
  have hz : (ks.zip vs).length = (itD ks ds).length := by rw [itD_len hds, List.length_zip]; omega
  refine ⟨_, _, (by rw [← hz]; exact walk_itemsT), fun L0 L g => g.sB _ _ h, fun i L0 L x L' d hd g y => ?_⟩
  obtain ⟨T, k, v, q, h1, rfl, h3, h4, rfl⟩ := y
  obtain ⟨hk, hv⟩ := zip_get h1
  unfold itD at hd
  rw [List.getElem?_map] at hd
  cases e : (ks.zip ds)[i]? with
  | none => rw [e] at hd; cases hd
  | some p =>
    obtain ⟨k', d'⟩ := p
    obtain ⟨hk', hd'⟩ := zip_get e
    rw [hk] at hk'; cases hk'
    rw [e] at hd
    simp only [Option.map_some, Option.some.injEq] at hd
    subst hd
    obtain ⟨v', hv', rv⟩ := DRs.get r hd'
    rw [hv] at hv'; cases hv'
    have gk := JH.key g.sh h4
    have gT : JH (upd L0 q (.tup (k.map kV))) L (upd (upd L0 q (.tup (k.map kV))) T (.tup [.ref q, v])) (upd L T (.tup [.ref q, v])) := JH.new gk.sh h3
    have nq : q ≠ T := fun z => by subst z; rw [h3] at h4; cases h4
    refine ⟨_, gk.trans gT, T, _, rfl, SqT.of upd_same, .ref q, _, rfl, ⟨q, _, rfl, SqT.of (by rw [upd_ne nq]; exact upd_same), keys_dr k⟩, v, [], rfl, DR.mono ((g.s0.trans gk.s0).trans gT.s0) _ _ rv, rfl⟩
theorem J.lockT {K : PySem.W.Frag} {B0 B : Hp} {σ : L2.St} {ρ : En} {H0 H : Hp} (j : J K B0 B σ H0 H ρ) {i : Nat} {ks : List (List Key)} {ds : List D} (hi : ρ[i]? = some (.ow (.dt ks ds))) :
    ∃ a vs, σ[i]? = some (some (.ref a)) ∧ H a = some (.dT (ks.zip vs)) ∧ H0 a = none ∧ B a = none ∧ ks.length = vs.length ∧ DRs K H0 ds vs ∧ ∀ od, J K B0 B σ H0 (upd H a (.frz od (.dT (ks.zip vs)))) (ρ.set i .no) := by
  obtain ⟨ov, e1, a, o, rfl, h1, h2, h3, vs, rfl, hl, r⟩ := j.get hi
  refine ⟨a, vs, e1, h1, h2, h3, hl, r, fun od => ?_⟩
  have q := (j.write (c' := .ft ks ds) (o := .frz od (.dT (ks.zip vs))) hi e1 ⟨vs, od, rfl, hl, r⟩).drop i
  rwa [List.set_set] at q
section
variable {X : Cx} {ρ : En} {Φ : Out → Prop} {elt : Expr} {elts : List Expr} {ifs : List Expr} {scope : Scope} {cpos : Pos} {kk : Nat} {tpos apos ipos : Pos}
/-- [.. for .., .. in d.items()], d a dict with tuple keys that its slot owns -/
theorem eo_lcItems (i : Nat) {x : Str} {p1 : Pos} {ks : List (List Key)} {ds : List D} (own : List (Str × Nat)) (hc : X.calm = true) (hN : X.N.Nodup) (ok : BlkOk X.N X.env.scope scope own) (hρ : ρ[i]? = some (.ow (.dt ks ds))) (ys : List (Option D)) (hlen : ys.length = ks.length) (turn : ∀ (n : Nat) d y, (itD ks ds)[n]? = some d → ys[n]? = some y → Turn1 X (ρ.set i .no) scope (own.map (·.2)) (.Tuple elts kk tpos) elt ifs d y) (hl : ks.length ≤ sizeLine)
    (hNi : X.N[i]? = some x := by rfl) (hv : Vis X.env.scope x := by first | exact Or.inl rfl | exact Or.inr (Or.inl rfl) | exact Or.inr (Or.inr rfl)) (hd : (x == ("__debug__" : Str)) = false := by decide) (hcd : (x == ("__classdict__" : Str)) = false := by decide)
    (hbase : attributeBase (.Name x p1) "items" X.env (eval (.Name x p1) X.env) = eval (.Name x p1) X.env := by rfl) (hline : (apos.endLine == ipos.line) = true := by rfl)
    (hs : ∀ z, foldedSetIterable (.Call (.Attribute (.Name x p1) "items" apos) [] [] ipos) X.env z = pure z := by intro _; rfl) : EO X ρ (.ListComp elt [⟨.Tuple elts kk tpos, .Call (.Attribute (.Name x p1) "items" apos) [] [] ipos, ifs, 0⟩] scope cpos) (.lst (ys.filterMap id)) := fun B0 B σ H0 H Q j k => by
  obtain ⟨a, vs, e1, h1, h2, h3, hkl, hr, jl⟩ := j.lockT hρ
  have hds : ks.length = ds.length := by rw [hkl, DRs.length hr]
  refine RE.of (pe_lock (pe_lc hc hN pi_star ok (g := GB X scope (.Tuple elts kk tpos)) (tt := TB X scope ifs) (te := EB X scope elt)
    (fun s H C cl fp => ⟨fun pins s1 σ1 H1 v u Q1 I r h => (pg_star (tg := .Tuple elts kk tpos)).run pins s1 σ1 H1 v u Q1 I r (h s H C cl fp)⟩)
    (fun s H C cl fp => ⟨fun pins s1 σ1 H1 Q1 I h => by obtain ⟨t, h1, h2⟩ := h s H C cl fp; exact h1.run pins s1 σ1 H1 Q1 I h2⟩)
    (fun s H C cl fp => ⟨fun pins s1 σ1 H1 Q1 I h => (pe_star (e := elt)).run pins s1 σ1 H1 Q1 I (h s H C cl fp)⟩) hs)) ?_
  refine ⟨a, _, h1, trivial, fun od => ?_⟩
  refine lc_readJ (ds := itD ks ds) (fun R hR => ⟨_, pi_itemsT (pe_var hNi hv hd hcd) hbase hline, .ref a, e1, a, od, _, rfl, upd_same, hR _ H0 _ (JH.refl (jl od).same) (dwj_items upd_same hkl hr)⟩) ys (by rw [itD_len hds]; exact hlen) turn (by rw [itD_len hds]; exact hl) (jl od) fun b o H0' H' g e2 e3 e4 r => ?_
  have gu := JH.unlock h1 h2 g
  have nb : b ≠ a := fun z => by rw [z, upd_same] at e4; cases e4
  rw [upd_ne nb] at e4
  exact ⟨gu.1, k b o H0' _ gu.2 (by rw [upd_ne nb]; exact e2) e3 e4 r⟩
end
end DL

/-! Sums by tuple keys. -/
namespace DL
open PySem PySem.Spec PyProof.Rows L2
abbrev PW := List (List Key × Int)
def dI (pw : PW) : OC := .dt (pw.map (·.1)) ((pw.map (·.2)).map .int)
def tW (pw : PW) : List (List Key × V) := pw.map fun p => (p.1, V.int p.2)
def getW (pw : PW) (k : List Key) : Int := ((pw.find? fun p => decide (p.1 = k)).map (·.2)).getD 0
def putW (pw : PW) (k : List Key) (v : Int) : PW := if (pw.any fun p => decide (p.1 = k)) = true then pw.map (fun p => if p.1 = k then (p.1, v) else p) else pw ++ [(k, v)]
theorem tW_zip : ∀ pw : PW, (pw.map (·.1)).zip ((pw.map (·.2)).map V.int) = tW pw
  | [] => rfl
  | p :: pw => by
    show (p.1, V.int p.2) :: (pw.map (·.1)).zip ((pw.map (·.2)).map V.int) = _
    rw [tW_zip pw]; rfl
theorem valW (pw : PW) (k : List Key) : (valV (tW pw) k).getD (.int 0) = .int (getW pw k) := by
  unfold valV getW tW
  rw [List.find?_map]
  show (((pw.find? fun p => decide (p.1 = k)).map fun p => (p.1, V.int p.2)).map (·.2)).getD (.int 0) = _
  cases pw.find? fun p => decide (p.1 = k) <;> rfl
theorem putW_t (pw : PW) (k : List Key) (v : Int) : putK (tW pw) k (.int v) = tW (putW pw k v) := by
  unfold putK putW tW
  rw [List.any_map]
  show (if (pw.any fun p => decide (p.1 = k)) = true then _ else _) = _
  split
  · rw [List.map_map, List.map_map]
    refine List.map_congr_left fun p _ => ?_
    show (if p.1 = k then (p.1, V.int v) else (p.1, V.int p.2)) = (fun p => (p.1, V.int p.2)) (if p.1 = k then (p.1, v) else p)
    by_cases e : p.1 = k
    · rw [if_pos e, if_pos e]
    · rw [if_neg e, if_neg e]
  · rw [List.map_append]; rfl
theorem ocr_dI {K : PySem.W.Frag} {H : Hp} {pw : PW} {o : HO} : OCR K H (dI pw) o ↔ o = .dT (tW pw) := by
  constructor
  · rintro ⟨vs, rfl, hl, r⟩
    rw [DRs.ints r, tW_zip]
  · rintro rfl
    refine ⟨(pw.map (·.2)).map V.int, by rw [tW_zip], by simp, ?_⟩
    generalize pw.map (·.2) = ns
    induction ns with
    | nil => rfl
    | cons n ns ih => exact ⟨_, _, rfl, rfl, ih⟩
section
variable {X : Cx} {ρ : En} {Φ : Out → Prop} {rest : List Stmt}
/-- y = (..); x[y] = x.get(y, 0) + e -/
theorem wss_addTo (i m : Nat) {x y : Str} {pw : PW} {es : List Expr} {kds : List Key} {e2 : Expr} {n : Int} {kx j0 : Nat} {py tp pos1 px py2 sp px2 apos py3 zp gp bp pos2 : Pos} (hu : X.A.units + 64 < cLine) (hN : X.N.Nodup) (hρ : ρ[i]? = some (.ow (dI pw))) (hmi : i ≠ m) (hml : m < ρ.length)
    (hk : AD X ρ es (kds.map kD)) (he : ED X (ρ.set m (.sh (.tup (kds.map kD)))) e2 (.int n)) (hl : pw.length < sizeLine) (hlen : kds.length ≤ sizeLine)
    (h : WSs X rest ((ρ.set m (.sh (.tup (kds.map kD)))).set i (.ow (dI (putW pw kds (getW pw kds + n))))) Φ)
    (hxi : X.N[i]? = some x := by rfl) (hym : X.N[m]? = some y := by rfl) (hvx : Vis X.env.scope x := by first | exact Or.inl rfl | exact Or.inr (Or.inl rfl) | exact Or.inr (Or.inr rfl)) (hdx : (x == ("__debug__" : Str)) = false := by decide) (hcx : (x == ("__classdict__" : Str)) = false := by decide)
    (hvy : Vis X.env.scope y := by first | exact Or.inl rfl | exact Or.inr (Or.inl rfl) | exact Or.inr (Or.inr rfl)) (hdy : (y == ("__debug__" : Str)) = false := by decide) (hcy : (y == ("__classdict__" : Str)) = false := by decide) (hly : Loc X.env.scope y := by first | exact Or.inl rfl | exact Or.inr rfl) (hfy : X.fn y = true ∨ X.env.scope.names.lookup y = some .local := by first | exact .inl rfl | exact .inr rfl)
    (hs1 : swapsWith (.Tuple es kx tp) (some (.Name y py)) pos1.line X.env = pure false := by rfl)
    (hs2 : swapsWith (.BinOp (.Call (.Attribute (.Name x px2) "get" apos) [.Name y py3, .Constant (.int 0) j0 zp] [] gp) .Add e2 bp) (some (.Subscript (.Name x px) (.Name y py2) sp)) pos2.line X.env = pure false := by rfl)
    (hm2 : M2 X (.Name x px2) "get" apos (.Name y py3) (.Constant (.int 0) j0 zp) gp := by exact ⟨rfl, rfl, rfl, rfl⟩) :
    WSs X (.Assign [.Name y py] (.Tuple es kx tp) pos1 :: .Assign [.Subscript (.Name x px) (.Name y py2) sp] (.BinOp (.Call (.Attribute (.Name x px2) "get" apos) [.Name y py3, .Constant (.int 0) j0 zp] [] gp) .Add e2 bp) pos2 :: rest) ρ Φ := fun B0 B σ H0 H Dn j k => by
  have hu1 : X.A.units + 1 < cLine := by omega
  refine ⟨_, pss_cons (ps_set hN hym hly (pe_tup pa_star) hs1 hfy) (pss_cons (ps_dput hu1 (pe_var hxi hvx hdx hcx) (pe_var hym hvy hdy hcy) (pe_op op_add (pe_dget2 hu1 (pe_var hxi hvx hdx hcx) (pe_var hym hvy hdy hcy) pe_int hm2) pe_star) hs2) pss_star), ?_⟩
  refine hk B0 B σ H0 H _ j fun vs G0 G g r => ?_
  refine ⟨by rw [← DRs.length r, List.length_map]; exact hlen, fun t ht => ?_⟩
  have hvs : vs = kds.map kV := kDs_val r
  subst hvs
  have g2 : JH G0 G (upd G0 t (.tup (kds.map kV))) (upd G t (.tup (kds.map kV))) := JH.new g.sh ht
  have j2 := ((j.grow g).grow g2).setSh (i := m) (d := .tup (kds.map kD)) (v := .ref t) ⟨t, _, rfl, SqT.of upd_same, keys_dr kds⟩
  have hσm : (σ.set m (some (V.ref t)))[m]? = some (some (.ref t)) := List.getElem?_set_self (by rw [j.len]; exact hml)
  have hρi : (ρ.set m (.sh (.tup (kds.map kD))))[i]? = some (.ow (dI pw)) := by rw [List.getElem?_set_ne (Ne.symm hmi)]; exact hρ
  obtain ⟨ov, e1, q, o, rfl, h1, h2, h3, h4⟩ := j2.get hρi
  cases ocr_dI.mp h4
  refine ⟨.ref q, e1, q, rfl, .inr ⟨_, .inl h1⟩, .ref t, hσm, valV (tW pw) kds, .inr ⟨tW pw, kds, t, .inl h1, rfl, upd_same, rfl⟩, ?_⟩
  rw [valW]
  refine he B0 B _ _ _ _ j2 fun w L0 L g3 rw' => ?_
  cases (show w = .int n from rw')
  have j3 := j2.grow g3
  obtain ⟨ov', e1', q', o', e9, w1, w2, w3, w4⟩ := j3.get hρi
  rw [e1] at e1'; cases e1'; cases e9
  cases ocr_dI.mp w4
  have Lt : L t = some (.tup (kds.map kV)) := g3.sB _ _ upd_same
  refine ⟨_, _, rfl, rfl, .ref q, e1, .ref t, hσm, q, _, rfl, DPut.t w1 Lt (by unfold tW; rw [List.length_map]; exact hl), ?_⟩
  rw [putW_t]
  exact h B0 B _ _ _ Dn (j3.write hρi e1 (ocr_dI.mpr rfl)) k
end
end DL

/-! y = [.. for .. in d.items()], y a local of the def; tuple + tuple. -/
namespace DL
open PySem PySem.Spec PyProof.Rows L2
section
variable {X : Cx} {ρ : En} {Φ : Out → Prop} {elt : Expr} {elts : List Expr} {ifs : List Expr} {scope : Scope} {cpos pos : Pos} {kk : Nat} {tpos apos ipos : Pos}
theorem ws_setLcItems (i m : Nat) {x y : Str} {p1 py : Pos} {ks : List (List Key)} {ds : List D} (own : List (Str × Nat)) (hc : X.calm = true) (hN : X.N.Nodup) (ok : BlkOk X.N X.env.scope scope own) (hρ : ρ[i]? = some (.ow (.dt ks ds))) (ys : List (Option D)) (hlen : ys.length = ks.length) (turn : ∀ (n : Nat) d y, (itD ks ds)[n]? = some d → ys[n]? = some y → Turn1 X (ρ.set i .no) scope (own.map (·.2)) (.Tuple elts kk tpos) elt ifs d y) (hl : ks.length ≤ sizeLine)
    (hΦ : Φ (.nx (ρ.set m (.ow (.lst (ys.filterMap id)))))) (hNi : X.N[i]? = some x := by rfl) (hy : X.N[m]? = some y := by rfl) (hyl : X.env.scope.names.lookup y = some .local := by rfl) (hv : Vis X.env.scope x := by first | exact Or.inl rfl | exact Or.inr (Or.inl rfl) | exact Or.inr (Or.inr rfl)) (hd : (x == ("__debug__" : Str)) = false := by decide) (hcd : (x == ("__classdict__" : Str)) = false := by decide)
    (hbase : attributeBase (.Name x p1) "items" X.env (eval (.Name x p1) X.env) = eval (.Name x p1) X.env := by rfl) (hline : (apos.endLine == ipos.line) = true := by rfl)
    (hsw : swapsWith (.ListComp elt [⟨.Tuple elts kk tpos, .Call (.Attribute (.Name x p1) "items" apos) [] [] ipos, ifs, 0⟩] scope cpos) (some (.Name y py)) pos.line X.env = pure true := by exact sw_true rfl rfl rfl (by decide +kernel)) (hs : ∀ z, foldedSetIterable (.Call (.Attribute (.Name x p1) "items" apos) [] [] ipos) X.env z = pure z := by intro _; rfl) :
    WS X (.Assign [.Name y py] (.ListComp elt [⟨.Tuple elts kk tpos, .Call (.Attribute (.Name x p1) "items" apos) [] [] ipos, ifs, 0⟩] scope cpos) pos) ρ Φ := fun B0 B σ H0 H Dn j k => by
  obtain ⟨a, vs, e1, h1, h2, h3, hkl, hr, jl⟩ := j.lockT hρ
  have hds : ks.length = ds.length := by rw [hkl, DRs.length hr]
  refine ⟨_, ps_lock (ps_setLc hc hN hy hyl hsw pi_star ok (g := GB X scope (.Tuple elts kk tpos)) (tt := TB X scope ifs) (te := EB X scope elt)
    (fun s H C cl fp => ⟨fun pins s1 σ1 H1 v u Q1 I r h => (pg_star (tg := .Tuple elts kk tpos)).run pins s1 σ1 H1 v u Q1 I r (h s H C cl fp)⟩)
    (fun s H C cl fp => ⟨fun pins s1 σ1 H1 Q1 I h => by obtain ⟨t, h1, h2⟩ := h s H C cl fp; exact h1.run pins s1 σ1 H1 Q1 I h2⟩)
    (fun s H C cl fp => ⟨fun pins s1 σ1 H1 Q1 I h => (pe_star (e := elt)).run pins s1 σ1 H1 Q1 I (h s H C cl fp)⟩) hs), a, _, h1, trivial, fun od => ?_⟩
  refine lc_readJ (ds := itD ks ds) (fun R hR => ⟨_, pi_itemsT (pe_var hNi hv hd hcd) hbase hline, .ref a, e1, a, od, _, rfl, upd_same, hR _ H0 _ (JH.refl (jl od).same) (dwj_items upd_same hkl hr)⟩) ys (by rw [itD_len hds]; exact hlen) turn (by rw [itD_len hds]; exact hl) (jl od) fun b o H0' H' g e2 e3 e4 r => ?_
  have gu := JH.unlock h1 h2 g
  have nb : b ≠ a := fun z => by rw [z, upd_same] at e4; cases e4
  rw [upd_ne nb] at e4
  exact ⟨gu.1, k _ hΦ _ H0' _ (j.setNew gu.2 (by rw [upd_ne nb]; exact e2) e3 e4 r)⟩
end
theorem b2_addT {X : Cx} {ds es : List D} (h1 : ds ≠ []) (h2 : es ≠ []) (hl : ds.length + es.length ≤ sizeLine) : B2 X .Add (.tup ds) (.tup es) (.tup (ds ++ es)) := ⟨_, op_catT, fun H0 H x y Q s r1 r2 k => by
  obtain ⟨a, xs, rfl, ha, hx⟩ := r1
  obtain ⟨b, ys, rfl, hb, hy⟩ := r2
  have nx : xs ≠ [] := fun e => h1 (by have := DRs.length hx; rw [e] at this; exact List.length_eq_zero_iff.mp this)
  have ny : ys ≠ [] := fun e => h2 (by have := DRs.length hy; rw [e] at this; exact List.length_eq_zero_iff.mp this)
  refine ⟨a, b, xs, ys, rfl, rfl, Same.seqT s ha, Same.seqT s hb, nx, by rw [← DRs.length hx, ← DRs.length hy]; exact hl, fun e => absurd e ny, fun _ p hp => ?_⟩
  have g : JH H0 H (upd H0 p (.tup (xs ++ ys))) (upd H p (.tup (xs ++ ys))) := JH.new s hp
  exact k _ _ _ g ⟨p, _, rfl, SqT.of upd_same, DRs.app (DRs.mono g.s0 _ _ hx) (DRs.mono g.s0 _ _ hy)⟩⟩
end DL

/-! Instances with a state: what a method is lent, and what it gives back. -/
namespace DL
open PySem PySem.Spec PyProof.Rows L2
/-- a heap without some places -/
def ers (H : Hp) (as : List Addr) : Hp := fun b => if b ∈ as then none else H b
theorem ers_in {H : Hp} {as : List Addr} {b : Addr} (h : b ∈ as) : ers H as b = none := if_pos h
theorem ers_out {H : Hp} {as : List Addr} {b : Addr} (h : b ∉ as) : ers H as b = H b := if_neg h
theorem ers_sub {H : Hp} {as : List Addr} : Same (ers H as) H := fun b u e => by
  by_cases h : b ∈ as
  · rw [ers_in h] at e; cases e
  · rwa [ers_out h] at e
abbrev Cs := List (Addr × OC)
abbrev pl (cs : Cs) : List Addr := cs.map (·.1)
section
variable {K : PySem.W.Frag} {B0 B H0 H H0' H' : Hp} {σ : L2.St} {ρ : En}
/-- what a slot owns, in another order -/
theorem J.perm (j : J K B0 B σ H0 H ρ) {i : Nat} {cs cs' : Cs} {d : D} (h : ρ[i]? = some (.ox cs d)) (p : cs.Perm cs') : J K B0 B σ H0 H (ρ.set i (.ox cs' d)) := by
  obtain ⟨ov, e1, f1, f2, f3⟩ := j.get h
  exact j.setSl (s := .ox cs' d) e1 ⟨f1, fun q hq => f2 q (p.mem_iff.mpr hq), (p.map _).nodup_iff.mp f3⟩ (j.sub h e1 fun a w => by
    have w' : a ∈ cs'.map (·.1) := w
    exact (p.map (·.1)).mem_iff.mpr w')
/-- what was lent comes back -/
theorem J.back (j : J K B0 B σ H0 H ρ) {i : Nat} {cs cs2 cs' : Cs} {d : D} (h : ρ[i]? = some (.ox (cs ++ cs2) d)) (g : JH H0 (ers H (pl cs)) H0' H') (hc : ∀ p ∈ cs', CellR K (ers H (pl cs)) H0' H' p.1 p.2) (nd : (pl cs').Nodup) :
    J K B0 B σ H0' H' (ρ.set i (.ox (cs' ++ cs2) d)) := by
  obtain ⟨ov, e1, ⟨v, rfl, rv⟩, f2, f3⟩ := j.get h
  have f3' := f3
  rw [List.map_append, List.nodup_append] at f3'
  obtain ⟨n1, n2, n3⟩ := f3'
  have Bn : ∀ a, a ∈ pl cs → B a = none := fun a ha => by
    obtain ⟨p, hp, rfl⟩ := List.mem_map.mp ha
    obtain ⟨o, _, _, q, _⟩ := (f2 p (List.mem_append_left _ hp)).ex
    exact q
  have sB : Same B (ers H (pl cs)) := fun b u e => by
    rw [ers_out fun hb => by rw [Bn b hb] at e; cases e]
    exact j.hp.sB b u e
  have eN : ∀ a, ers H (pl cs) a = none → B a = none := fun a ha => by
    cases hB : B a with
    | none => rfl
    | some u => rw [sB a u hB] at ha; cases ha
  have cell : ∀ {a : Addr} {c : OC}, a ∉ pl cs → CellR K B H0 H a c → CellR K B H0' H' a c := fun {a c} na ⟨o, q1, q2, q3, q4⟩ => by
    have q5 : ers H (pl cs) a = some o := by rw [ers_out na]; exact q1
    exact ⟨o, g.sB a o q5, g.fr a o q5 q4.nt q2, q3, q4.mono g.s0⟩
  have hl : i < ρ.length := (List.getElem?_eq_some_iff.mp h).1
  have oth : ∀ {k : Nat} {s : Sl} {ok : Option V} {a : Addr}, k ≠ i → ρ[k]? = some s → σ[k]? = some ok → Owns s ok a → a ∉ pl cs := fun {k s ok a} nk h1 h2 w hm =>
    nk (j.dis k i s _ ok _ a h1 h h2 e1 w (by show a ∈ (cs ++ cs2).map (·.1); rw [List.map_append]; exact List.mem_append_left _ hm))
  refine ⟨⟨j.hp.s0.trans g.s0, g.sh, sB.trans g.sB, fun a o ha nt hb => g.fr a o (sB a o ha) nt (j.hp.fr a o ha nt hb)⟩, by simp [j.len], fun k s1 ov1 g1 g2 => ?_, fun k l s1 s2 o1 o2 b g1 g2 g3 g4 w1 w2 => ?_⟩
  · rcases set_get g1 with ⟨rfl, rfl, _⟩ | ⟨nk, g1⟩
    · rw [e1] at g2; cases g2
      refine ⟨⟨v, rfl, DR.mono g.s0 _ _ rv⟩, fun p hp => ?_, ?_⟩
      · rcases List.mem_append.mp hp with hp | hp
        · obtain ⟨o, q1, q2, q3, q4⟩ := (hc p hp).ex
          exact ⟨o, q1, q2, eN _ q3, q4⟩
        · exact cell (fun hm => n3 p.1 hm p.1 (List.mem_map.mpr ⟨p, hp, rfl⟩) rfl) (f2 p (List.mem_append_right _ hp))
      · rw [List.map_append, List.nodup_append]
        refine ⟨nd, n2, fun x hx y hy => ?_⟩
        rintro rfl
        obtain ⟨p, hp, rfl⟩ := List.mem_map.mp hx
        obtain ⟨q, hq, e⟩ := List.mem_map.mp hy
        obtain ⟨o, q1, q2, q3, q4⟩ := (hc p hp).ex
        obtain ⟨o', q1', _⟩ := (f2 q (List.mem_append_right _ hq)).ex
        rw [ers_out (fun hm => n3 p.1 hm p.1 hy rfl), ← e, q1'] at q3
        cases q3
    · have q := j.sl k s1 ov1 g1 g2
      have nb : ∀ b, Owns s1 ov1 b → b ∉ pl cs := fun b w => oth nk g1 g2 w
      cases s1 with
      | no => trivial
      | sh d => obtain ⟨v, q1, q2⟩ := q; exact ⟨v, q1, DR.mono g.s0 _ _ q2⟩
      | ow c =>
        obtain ⟨b, ob, q1, q2⟩ := q
        obtain ⟨o, r1, r2, r3, r4⟩ := cell (nb b q1) ⟨ob, q2⟩
        exact ⟨b, o, q1, r1, r2, r3, r4⟩
      | ox cs3 d3 =>
        obtain ⟨⟨v, q1, q2⟩, q3, q4⟩ := q
        exact ⟨⟨v, q1, DR.mono g.s0 _ _ q2⟩, fun p hp => cell (nb p.1 (List.mem_map.mpr ⟨p, hp, rfl⟩)) (q3 p hp), q4⟩
  · have new : ∀ {k : Nat} {s : Sl} {ok : Option V}, k ≠ i → ρ[k]? = some s → σ[k]? = some ok → Owns s ok b → b ∉ (cs' ++ cs2).map (·.1) := fun {k s ok} nk h1 h2 w hm => by
      obtain ⟨o, q1, _⟩ := j.own h1 h2 w
      have nb := oth nk h1 h2 w
      rw [List.map_append, List.mem_append] at hm
      rcases hm with hm | hm
      · obtain ⟨p, hp, rfl⟩ := List.mem_map.mp hm
        obtain ⟨_, _, _, q3, _⟩ := (hc p hp).ex
        rw [ers_out nb, q1] at q3; cases q3
      · exact nk (j.dis k i s _ ok _ b h1 h h2 e1 w (by show b ∈ (cs ++ cs2).map (·.1); rw [List.map_append]; exact List.mem_append_right _ hm))
    rcases set_get g1 with ⟨ek, es1, _⟩ | ⟨nk, g1'⟩
    · rcases set_get g2 with ⟨el, es2, _⟩ | ⟨nl, g2'⟩
      · rw [ek, el]
      · subst es1; exact absurd w1 (new nl g2' g4 w2)
    · rcases set_get g2 with ⟨el, es2, _⟩ | ⟨nl, g2'⟩
      · subst es2; exact absurd w2 (new nk g1' g3 w1)
      · exact j.dis k l s1 s2 o1 o2 b g1' g2' g3 g4 w1 w2
/-- what may be lent -/
theorem J.lent (j : J K B0 B σ H0 H ρ) {i : Nat} {cs cs2 : Cs} {d : D} (h : ρ[i]? = some (.ox (cs ++ cs2) d)) : (∀ p ∈ cs, CellR K (ers H (pl cs)) H0 H p.1 p.2) ∧ (pl cs).Nodup := by
  obtain ⟨ov, e1, ⟨v, rfl, rv⟩, f2, f3⟩ := j.get h
  rw [List.map_append, List.nodup_append] at f3
  refine ⟨fun p hp => ?_, f3.1⟩
  obtain ⟨o, q1, q2, q3, q4⟩ := (f2 p (List.mem_append_left _ hp)).ex
  exact ⟨o, q1, q2, ers_in (List.mem_map.mpr ⟨p, hp, rfl⟩), q4⟩
theorem Same.ers {H0 H : Hp} {cs : Cs} (s : Same H0 H) (h : ∀ a ∈ pl cs, H0 a = none) : Same H0 (ers H (pl cs)) := fun b u e => by
  rw [ers_out fun hb => by rw [h b hb] at e; cases e]
  exact s b u e
end
/-! ### expressions that change the slots -/
def EP (X : Cx) (ρ : En) (e : Expr) (Ψ : D → En → Prop) : Prop := ∀ B0 B σ H0 H (Q : VK), J X.K B0 B σ H0 H ρ → (∀ d ρ' v H0' H', Ψ d ρ' → Same H0 H0' → J X.K B0 B σ H0' H' ρ' → DR X.K H0' d v → Q v H') → RE X e σ H Q
/-- a new thing of its own, with cells -/
def EC (X : Cx) (ρ : En) (e : Expr) (Ψ : Addr → Cs → Prop) : Prop := ∀ B0 B σ H0 H (Q : VK), J X.K B0 B σ H0 H ρ → (∀ a cs H0' H', Ψ a cs → JH H0 H H0' H' → (∀ p ∈ cs, CellR X.K H H0' H' p.1 p.2) → (pl cs).Nodup → Q (.ref a) H') → RE X e σ H Q
def AP (X : Cx) (ρ : En) (es : List Expr) (Ψ : List D → En → Prop) : Prop := ∀ B0 B σ H0 H (Q : List V → Hp → Prop), J X.K B0 B σ H0 H ρ → (∀ ds ρ' vs H0' H', Ψ ds ρ' → Same H0 H0' → J X.K B0 B σ H0' H' ρ' → DRs X.K H0' ds vs → Q vs H') → RA X es σ H Q
section
variable {X : Cx} {ρ : En} {e : Expr} {pos : Pos} {d : D} {Φ : Out → Prop} {Ψ : D → En → Prop}
theorem ep_ed (h : ED X ρ e d) : EP X ρ e (fun d' ρ' => d' = d ∧ ρ' = ρ) := fun B0 B σ H0 H Q j k => h B0 B σ H0 H Q j fun v H0' H' g r => k d ρ v H0' H' ⟨rfl, rfl⟩ g.s0 (j.grow g) r
theorem ep_mono {Ψ' : D → En → Prop} (h : EP X ρ e Ψ) (q : ∀ d ρ', Ψ d ρ' → Ψ' d ρ') : EP X ρ e Ψ' := fun B0 B σ H0 H Q j k => h B0 B σ H0 H Q j fun d ρ' v H0' H' w => k d ρ' v H0' H' (q d ρ' w)
theorem ap_nil : AP X ρ [] (fun ds ρ' => ds = [] ∧ ρ' = ρ) := fun B0 B σ H0 H Q j k => RA.of pa_nil (k [] ρ [] H0 H ⟨rfl, rfl⟩ (Same.refl _) j rfl)
theorem ap_cons {es : List Expr} {Ψs : D → En → List D → En → Prop} (h : EP X ρ e Ψ) (r : ∀ d ρ', Ψ d ρ' → AP X ρ' es (Ψs d ρ')) (hs : starEach (e :: es) X.env = (false, eval e X.env) :: starEach es X.env := by rfl) :
    AP X ρ (e :: es) (fun ds ρ'' => ∃ d ρ' ds', Ψ d ρ' ∧ Ψs d ρ' ds' ρ'' ∧ ds = d :: ds') := fun B0 B σ H0 H Q j k =>
  RA.of (pa_cons pe_star pa_star hs) (h B0 B σ H0 H _ j fun d ρ' v G0 G w s1 j1 r1 => r d ρ' w B0 B σ G0 G _ j1 fun ds' ρ'' vs L0 L w2 s2 j2 r2 => k (d :: ds') ρ'' (v :: vs) L0 L ⟨d, ρ', ds', w, w2, rfl⟩ (s1.trans s2) j2 ⟨v, vs, rfl, DR.mono s2 _ _ r1, r2⟩)
theorem ws_setP (i : Nat) {x : Str} {pos' : Pos} (hN : X.N.Nodup) (he : EP X ρ e Ψ) (hΦ : ∀ d ρ', Ψ d ρ' → Φ (.nx (ρ'.set i (.sh d)))) (hi : X.N[i]? = some x := by rfl) (hx : Loc X.env.scope x := by first | exact Or.inl rfl | exact Or.inr rfl)
    (hs : swapsWith e (some (.Name x pos')) pos.line X.env = pure false := by rfl) (hf : X.fn x = true ∨ X.env.scope.names.lookup x = some .local := by first | exact .inl rfl | exact .inr rfl) : WS X (.Assign [.Name x pos'] e pos) ρ Φ := fun B0 B σ H0 H Dn j k =>
  ⟨_, ps_set hN hi hx pe_star hs hf, he B0 B σ H0 H _ j fun d ρ' v H0' H' w s1 j1 r => k _ (hΦ d ρ' w) _ H0' H' (j1.setSh r)⟩
theorem ws_unpackP {tg : Expr} (he : EP X ρ e Ψ) (hg : ∀ d ρ', Ψ d ρ' → ∃ (is : List Nat) (ρ2 : En), DG X is tg d ρ' ρ2 ∧ Φ (.nx ρ2)) (hs : swapsWithSole [tg] e pos.line X.env = pure false := by rfl) (hw : swappedStores [tg] e X.env = pure none := by rfl)
    (h1 : (assignEach [tg] X.env).map (·.2) = [assign tg X.env] := by rfl) : WS X (.Assign [tg] e pos) ρ Φ := fun B0 B σ H0 H Dn j k =>
  ⟨_, ps_asg pe_star pg_star hs hw h1, he B0 B σ H0 H _ j fun d ρ' v H0' H' w s1 j1 r => by
    obtain ⟨is, ρ2, hg', hΦ⟩ := hg d ρ' w
    exact hg' B0 B σ H0' H' v _ j1 r fun σ' j' _ => k _ hΦ σ' H0' H' j'⟩
theorem ws_exprP (he : EP X ρ e Ψ) (hΦ : ∀ d ρ', Ψ d ρ' → Φ (.nx ρ')) (hs : swapsWith e none pos.line X.env = pure false := by rfl) : WS X (.Expr e pos) ρ Φ := fun B0 B σ H0 H Dn j k =>
  ⟨_, ps_expr pe_star hs, he B0 B σ H0 H _ j fun d ρ' v H0' H' w s1 j1 r => k _ (hΦ d ρ' w) σ H0' H' j1⟩
/-- x = a new thing with cells -/
theorem ws_setC (i : Nat) {x : Str} {pos' : Pos} {Ψ : Addr → Cs → Prop} (hN : X.N.Nodup) (he : EC X ρ e Ψ) (hΦ : ∀ a cs, Ψ a cs → Φ (.nx (ρ.set i (.ox cs (.ad a))))) (hi : X.N[i]? = some x := by rfl) (hx : Loc X.env.scope x := by first | exact Or.inl rfl | exact Or.inr rfl)
    (hs : swapsWith e (some (.Name x pos')) pos.line X.env = pure false := by rfl) (hf : X.fn x = true ∨ X.env.scope.names.lookup x = some .local := by first | exact .inl rfl | exact .inr rfl) : WS X (.Assign [.Name x pos'] e pos) ρ Φ := fun B0 B σ H0 H Dn j k =>
  ⟨_, ps_set hN hi hx pe_star hs hf, he B0 B σ H0 H _ j fun a cs H0' H' w g hc nd => by
    refine k _ (hΦ a cs w) _ H0' H' ((j.grow g).setTo (s := .ox cs (.ad a)) (ov := some (.ref a)) ⟨⟨_, rfl, rfl⟩, fun p hp => ?_, nd⟩ fun b w k s' ov' nk h1 h2 w2 => ?_)
    · obtain ⟨o, q1, q2, q3, q4⟩ := (hc p hp).ex
      exact ⟨o, q1, q2, j.hp.sB.free q3, q4⟩
    · have w' : b ∈ pl cs := w
      obtain ⟨p, hp, rfl⟩ := List.mem_map.mp w'
      obtain ⟨_, _, _, q3, _⟩ := (hc p hp).ex
      obtain ⟨o, q1, _⟩ := j.own h1 h2 w2
      rw [q3] at q1; cases q1⟩
/-- return e, with what slot 0 owns -/
theorem ws_retC (i : Nat) {cs : Cs} {d0 : D} (h : ED X ρ e d) (hi : ρ[i]? = some (.ox cs d0)) (hΦ : Φ (.rc d cs)) : WS X (.Return (some e) pos) ρ Φ := fun B0 B σ H0 H Dn j k =>
  ⟨_, ps_ret pe_star, h B0 B σ H0 H _ j fun v H0' H' g r => by
    obtain ⟨ov, e1, _, f2, f3⟩ := (j.grow g).get hi
    exact k _ hΦ v H0' H' (j.hp.trans g) f2 f3 r⟩
theorem ws_retCN (i : Nat) {cs : Cs} {d0 : D} (hi : ρ[i]? = some (.ox cs d0)) (hΦ : Φ (.rc .non cs)) : WS X (.Return none pos) ρ Φ := fun B0 B σ H0 H Dn j k =>
  ⟨_, ps_retN, by
    obtain ⟨ov, e1, _, f2, f3⟩ := j.get hi
    exact k _ hΦ .non H0 H j.hp f2 f3 rfl⟩
theorem ws_retCP (i : Nat) (h : EP X ρ e Ψ) (hΦ : ∀ d ρ', Ψ d ρ' → ∃ cs d0, ρ'[i]? = some (.ox cs d0) ∧ Φ (.rc d cs)) : WS X (.Return (some e) pos) ρ Φ := fun B0 B σ H0 H Dn j k =>
  ⟨_, ps_ret pe_star, h B0 B σ H0 H _ j fun d ρ' v H0' H' w s1 j1 r => by
    obtain ⟨cs, d0, hi, hΦ⟩ := hΦ d ρ' w
    obtain ⟨ov, e1, _, f2, f3⟩ := j1.get hi
    exact k _ hΦ v H0' H' j1.hp f2 f3 r⟩
end
/-! ### defs and methods that are lent something -/
/-- R: the place of the first argument, what is lent, the other arguments, what comes back and the result -/
abbrev RLnt := Addr → Cs → List D → (Cs → D → Prop) → Prop
def spL (K : PySem.W.Frag) (R : RLnt) : Sp := fun vs H Q _ => ∃ H0 a cs ds ws Ψ, vs = .ref a :: ws ∧ Same H0 H ∧ (∀ p ∈ cs, CellR K (ers H (pl cs)) H0 H p.1 p.2) ∧ (pl cs).Nodup ∧ DRs K H0 ds ws ∧ R a cs ds Ψ ∧
  ∀ cs' d v H0' H', Ψ cs' d → JH H0 (ers H (pl cs)) H0' H' → (∀ p ∈ cs', CellR K (ers H (pl cs)) H0' H' p.1 p.2) → (pl cs').Nodup → DR K H0' d v → Q v H'
def enL (N : List Str) (cs : Cs) (a : Addr) (ds : List D) : En := .ox cs (.ad a) :: (ds.map Sl.sh ++ List.replicate (N.length - (ds.length + 1)) Sl.no)
section
variable {P : Program} {w : World} {K : PySem.W.Frag} {mg : Str → Option Value} {base : Heap}
theorem j_startL {N : List Str} {B H0 H : Hp} {a : Addr} {cs : Cs} {ds : List D} {vs : List V} (s : Same H0 H) (sB : Same B H) (hc : ∀ p ∈ cs, CellR K B H0 H p.1 p.2) (nd : (pl cs).Nodup) (r : DRs K H0 ds vs) (hl : ds.length + 1 ≤ N.length) : J K H0 B (L2.start N (.ref a :: vs)) H0 H (enL N cs a ds) := by
  have hlen := DRs.length r
  have kind : ∀ (i : Nat) s, (enL N cs a ds)[i]? = some s → i = 0 ∨ s = .no ∨ ∃ d, s = .sh d := fun i s h => by
    cases i with
    | zero => exact .inl rfl
    | succ i =>
      refine .inr ?_
      unfold enL at h
      rw [List.getElem?_cons_succ] at h
      by_cases hi : i < ds.length
      · rw [List.getElem?_append_left (by simpa using hi), List.getElem?_map, show ds[i]? = some ds[i] by simp [hi]] at h
        cases h; exact .inr ⟨_, rfl⟩
      · rw [List.getElem?_append_right (by simp; omega), List.getElem?_replicate] at h
        split at h
        · cases h; exact .inl rfl
        · cases h
  refine ⟨⟨Same.refl _, s, sB, fun b o e _ h => h⟩, by simp [L2.start, enL, hlen], fun i sl ov h1 h2 => ?_, fun i j s1 s2 o1 o2 b h1 h2 _ _ w1 w2 => ?_⟩
  · cases i with
    | zero =>
      unfold enL at h1
      unfold L2.start at h2
      simp only [List.getElem?_cons_zero, Option.some.injEq, List.map_cons, List.cons_append] at h1 h2
      subst h1; subst h2
      exact ⟨⟨_, rfl, rfl⟩, hc, nd⟩
    | succ i =>
      unfold enL at h1
      unfold L2.start at h2
      simp only [List.getElem?_cons_succ, List.map_cons, List.cons_append] at h1 h2
      by_cases hi : i < ds.length
      · rw [List.getElem?_append_left (by simpa using hi), List.getElem?_map] at h1
        rw [List.getElem?_append_left (by simp; omega), List.getElem?_map] at h2
        obtain ⟨v, e1, e2⟩ := DRs.get r (show ds[i]? = some ds[i] by simp [hi])
        rw [show ds[i]? = some ds[i] by simp [hi]] at h1
        rw [e1] at h2
        cases h1; cases h2
        exact ⟨v, rfl, e2⟩
      · rw [List.getElem?_append_right (by simp; omega), List.getElem?_replicate] at h1
        split at h1
        · cases h1; trivial
        · cases h1
  · rcases kind i s1 h1 with e1 | e1
    · rcases kind j s2 h2 with e2 | e2
      · rw [e1, e2]
      · exact absurd w2 (Owns.none e2 b)
    · exact absurd w1 (Owns.none e1 b)
theorem fn_okL {x qual : Str} {st : Stmt} {f : Addr} {fd : FuncData} {N ps : List Str} {k : Nat} {R : RLnt} (F : Fun K x qual st f fd) (S : FnScope N ps (defScope st)) (hR : ∀ a cs ds Ψ, R a cs ds Ψ → ds.length + 1 = ps.length)
    (h : ∀ a cs ds Ψ, R a cs ds Ψ → ∀ (cdv : Value) (A : Around) (outer : List Env) (s : Shared) (H : Hp) (E : XK), Room k (A.deeper (envOfC qual (defScope st) s.heap.objs.size f cdv)) →
      WSs (bx P w K mg base N qual st f cdv A outer s H E) (defBody st) (enL N cs a ds) (fun o => (∃ d cs', o = .rc d cs' ∧ Ψ cs' d) ∨ (∃ ρ cs' d0, o = .nx ρ ∧ ρ[0]? = some (.ox cs' d0) ∧ Ψ cs' .non))) : FnOk P w K mg base CX0 (k + 1) f fd ps (spL K R) := by
  refine F.ok S (fun vs H Q E hs => ?_) fun cdv A outer s H vs Q E hr hs => ?_
  · obtain ⟨H0, a, cs, ds, ws, Ψ, rfl, s0, hc, nd, r, q, _⟩ := hs
    rw [List.length_cons, ← DRs.length r]; exact hR a cs ds Ψ q
  · obtain ⟨H0, a, cs, ds, ws, Ψ, rfl, s0, hc, nd, r, q, kk⟩ := hs
    have hN : ds.length + 1 ≤ N.length := by
      have h1 := hR a cs ds Ψ q
      have h2 := congrArg List.length S.pre
      rw [List.length_take] at h2
      omega
    obtain ⟨t, h1, h2⟩ := h a cs ds Ψ q cdv A outer s H E hr H0 (ers H (pl cs)) (L2.start N (.ref a :: ws)) H0 H (j_startL s0 ers_sub hc nd r hN) (Dn := { nx := fun _ H' => Q .non H', rt := Q }) fun o ho => by
      rcases ho with ⟨d, cs', rfl, w⟩ | ⟨ρ, cs', d0, rfl, hρ, w⟩
      · intro v G0 G g gc gn gd
        exact kk cs' d v G0 G w g gc gn gd
      · intro σ G0 G j
        obtain ⟨ov, e1, _, f2, f3⟩ := j.get hρ
        exact kk cs' .non .non G0 G w j.hp f2 f3 rfl
    exact ⟨t, h1, h2⟩
/-- a method that is lent its instance -/
structure FnML (P : Program) (w : World) (K : PySem.W.Frag) (mg : Str → Option Value) (base : Heap) (cn m : Str) (k : Nat) (R : RLnt) : Prop where
  ex : ∃ C f fd ps, PySem.W.nsIn K mainGlobals cn = some (some (.ref C)) ∧ Cls K C ∧ Meth K C m f ∧ FnOk P w K mg base CX0 k f fd ps (spL K R) ∧ Binds K fd ps []
end
section
variable {X : Cx} {ρ : En} {o e : Expr} {pos apos : Pos} {cn m : Str} {k : Nat} {R : RLnt} {es : List Expr} {ds fds : List D} {ns : List Str} {d0 : D} {pl' : Sem Bool}
/-- o.m(e, ..), o an instance that slot i owns -/
theorem ep_meth (i : Nat) {a : Addr} {cs cs2 : Cs} {Ψ : Cs → D → Prop} (G : FnML X.prog X.w X.K X.mg X.base cn m k R) (hr : Room k X.A) (hi : ρ[i]? = some (.ox (cs ++ cs2) d0)) (hm : (a, OC.ins cn ns fds) ∈ cs) (ho : ED X ρ o (.ad a)) (ha : AD X ρ (e :: es) ds) (hR : R a cs ds Ψ)
    (hnm : ns.contains m = false := by decide +kernel)
    (hst : starEach (e :: es) X.env = (false, eval e X.env) :: starEach es X.env := by rfl) (hpl : (backTo pos (starEach es X.env)).any (·.1) = false := by rfl)
    (ht : eval (.Call (.Attribute o m apos) (e :: es) [] pos) X.env = (do
      let ov ← eval o X.env
      standAt apos.atName
      let (f, first) ← holding [ov] (getMethod ov m pl')
      callWith pos f first (backTo pos (starEach (e :: es) X.env)) (backToKw pos (keywordEach [] X.env))) := by rfl) :
    EP X ρ (.Call (.Attribute o m apos) (e :: es) [] pos) (fun d ρ' => ∃ cs', Ψ cs' d ∧ ρ' = ρ.set i (.ox (cs' ++ cs2) d0)) := fun B0 B σ H0 H Q j kk => by
  obtain ⟨C, f, fd, ps, hC, hc, hmt, F, hb⟩ := G.ex
  refine RE.of (pe_meth (E := E0) pe_star hc hmt F hr hb .nil pass0 pa_star hst hpl ht) (ho B0 B σ H0 H _ j fun v G0 G g r => ?_)
  cases (show v = .ref a from r)
  have j1 := j.grow g
  obtain ⟨u, h1, _, _, vs, C', dx, rfl, hC', hlen, hvs⟩ := j1.cell hi (List.mem_append_left _ hm)
  rw [hC] at hC'; cases hC'
  refine ⟨a, dx, _, rfl, h1, zip_none hnm, ha B0 B σ G0 G _ j1 fun ws L0 L g2 r2 => ?_⟩
  rw [List.append_nil]
  have j2 := j1.grow g2
  obtain ⟨lc, ln⟩ := j2.lent hi
  exact ⟨L0, a, cs, ds, ws, Ψ, rfl, g2.sh, lc, ln, r2, hR, fun cs' d v M0 M w g3 c3 n3 r3 => kk d _ v M0 M ⟨cs', w, rfl⟩ ((g.s0.trans g2.s0).trans g3.s0) (j2.back hi g3 c3 n3) r3⟩
theorem ep_meth0 (i : Nat) {a : Addr} {cs cs2 : Cs} {Ψ : Cs → D → Prop} (G : FnML X.prog X.w X.K X.mg X.base cn m k R) (hr : Room k X.A) (hi : ρ[i]? = some (.ox (cs ++ cs2) d0)) (hm : (a, OC.ins cn ns fds) ∈ cs) (ho : ED X ρ o (.ad a)) (hR : R a cs [] Ψ)
    (hnm : ns.contains m = false := by decide +kernel)
    (ht : eval (.Call (.Attribute o m apos) [] [] pos) X.env = (do
      let ov ← eval o X.env
      standAt apos.atName
      let (f, first) ← holding [ov] (getMethod ov m pl')
      callWith pos f first (backTo pos (starEach [] X.env)) (backToKw pos (keywordEach [] X.env))) := by rfl) :
    EP X ρ (.Call (.Attribute o m apos) [] [] pos) (fun d ρ' => ∃ cs', Ψ cs' d ∧ ρ' = ρ.set i (.ox (cs' ++ cs2) d0)) := fun B0 B σ H0 H Q j kk => by
  obtain ⟨C, f, fd, ps, hC, hc, hmt, F, hb⟩ := G.ex
  refine RE.of (pe_meth0 (E := E0) pe_star hc hmt F hr hb .nil pass0 ht) (ho B0 B σ H0 H _ j fun v G0 G g r => ?_)
  cases (show v = .ref a from r)
  have j1 := j.grow g
  obtain ⟨u, h1, _, _, vs, C', dx, rfl, hC', hlen, hvs⟩ := j1.cell hi (List.mem_append_left _ hm)
  rw [hC] at hC'; cases hC'
  refine ⟨a, dx, _, rfl, h1, zip_none hnm, ?_⟩
  obtain ⟨lc, ln⟩ := j1.lent hi
  exact ⟨G0, a, cs, [], [], Ψ, rfl, g.sh, lc, ln, rfl, hR, fun cs' d v M0 M w g3 c3 n3 r3 => kk d _ v M0 M ⟨cs', w, rfl⟩ (g.s0.trans g3.s0) (j1.back hi g3 c3 n3) r3⟩
/-- .. all of the slot lent -/
theorem ep_methW (i : Nat) {a : Addr} {cs : Cs} {Ψ : Cs → D → Prop} (G : FnML X.prog X.w X.K X.mg X.base cn m k R) (hr : Room k X.A) (hi : ρ[i]? = some (.ox cs d0)) (hm : (a, OC.ins cn ns fds) ∈ cs) (ho : ED X ρ o (.ad a)) (ha : AD X ρ (e :: es) ds) (hR : R a cs ds Ψ)
    (hnm : ns.contains m = false := by decide +kernel)
    (hst : starEach (e :: es) X.env = (false, eval e X.env) :: starEach es X.env := by rfl) (hpl : (backTo pos (starEach es X.env)).any (·.1) = false := by rfl)
    (ht : eval (.Call (.Attribute o m apos) (e :: es) [] pos) X.env = (do
      let ov ← eval o X.env
      standAt apos.atName
      let (f, first) ← holding [ov] (getMethod ov m pl')
      callWith pos f first (backTo pos (starEach (e :: es) X.env)) (backToKw pos (keywordEach [] X.env))) := by rfl) :
    EP X ρ (.Call (.Attribute o m apos) (e :: es) [] pos) (fun d ρ' => ∃ cs', Ψ cs' d ∧ ρ' = ρ.set i (.ox cs' d0)) :=
  ep_mono (ep_meth i (cs := cs) (cs2 := []) (d0 := d0) G hr (by rw [List.append_nil]; exact hi) hm ho ha hR hnm hst hpl ht) fun d ρ' ⟨cs', w, e⟩ => ⟨cs', w, by rw [e, List.append_nil]⟩
theorem ep_meth0W (i : Nat) {a : Addr} {cs : Cs} {Ψ : Cs → D → Prop} (G : FnML X.prog X.w X.K X.mg X.base cn m k R) (hr : Room k X.A) (hi : ρ[i]? = some (.ox cs d0)) (hm : (a, OC.ins cn ns fds) ∈ cs) (ho : ED X ρ o (.ad a)) (hR : R a cs [] Ψ)
    (hnm : ns.contains m = false := by decide +kernel)
    (ht : eval (.Call (.Attribute o m apos) [] [] pos) X.env = (do
      let ov ← eval o X.env
      standAt apos.atName
      let (f, first) ← holding [ov] (getMethod ov m pl')
      callWith pos f first (backTo pos (starEach [] X.env)) (backToKw pos (keywordEach [] X.env))) := by rfl) :
    EP X ρ (.Call (.Attribute o m apos) [] [] pos) (fun d ρ' => ∃ cs', Ψ cs' d ∧ ρ' = ρ.set i (.ox cs' d0)) :=
  ep_mono (ep_meth0 i (cs := cs) (cs2 := []) (d0 := d0) G hr (by rw [List.append_nil]; exact hi) hm ho hR hnm ht) fun d ρ' ⟨cs', w, e⟩ => ⟨cs', w, by rw [e, List.append_nil]⟩
end
/-! ### __init__ of what stays the maker's own -/
abbrev RIL := Addr → List D → (Cs → Prop) → Prop
def spIL (K : PySem.W.Frag) (cn : Str) (R : RIL) : Sp := fun vs H Q _ => ∃ H0 a C dx ds ws Ψ, vs = .ref a :: ws ∧ PySem.W.nsIn K mainGlobals cn = some (some (.ref C)) ∧ Same H0 H ∧ H a = some (.ins C dx []) ∧ H0 a = none ∧ DRs K H0 ds ws ∧ R a ds Ψ ∧
  ∀ cs' H0' H', Ψ cs' → JH H0 (er H a) H0' H' → (∀ p ∈ cs', CellR K (er H a) H0' H' p.1 p.2) → (pl cs').Nodup → Q .non H'
section
variable {P : Program} {w : World} {K : PySem.W.Frag} {mg : Str → Option Value} {base : Heap}
theorem fn_okIL {x qual : Str} {st : Stmt} {f : Addr} {fd : FuncData} {N ps : List Str} {k : Nat} {cn : Str} {R : RIL} (F : Fun K x qual st f fd) (S : FnScope N ps (defScope st)) (hR : ∀ a ds Ψ, R a ds Ψ → ds.length + 1 = ps.length)
    (h : ∀ a ds Ψ, R a ds Ψ → ∀ (cdv : Value) (A : Around) (outer : List Env) (s : Shared) (H : Hp) (E : XK), Room k (A.deeper (envOfC qual (defScope st) s.heap.objs.size f cdv)) →
      WSs (bx P w K mg base N qual st f cdv A outer s H E) (defBody st) (enI N a cn ds) (fun o => ∃ ρ cs' d0, o = .nx ρ ∧ ρ[0]? = some (.ox cs' d0) ∧ Ψ cs')) : FnOk P w K mg base CX0 (k + 1) f fd ps (spIL K cn R) := by
  refine F.ok S (fun vs H Q E hs => ?_) fun cdv A outer s H vs Q E hr hs => ?_
  · obtain ⟨H0, a, C, dx, ds, ws, Ψ, rfl, hC, s0, ha, h0, r, q, _⟩ := hs
    rw [List.length_cons, ← DRs.length r]; exact hR a ds Ψ q
  · obtain ⟨H0, a, C, dx, ds, ws, Ψ, rfl, hC, s0, ha, h0, r, q, kk⟩ := hs
    have hN : ds.length + 1 ≤ N.length := by
      have h1 := hR a ds Ψ q
      have h2 := congrArg List.length S.pre
      rw [List.length_take] at h2
      omega
    obtain ⟨t, h1, h2⟩ := h a ds Ψ q cdv A outer s H E hr H0 (er H a) (L2.start N (.ref a :: ws)) H0 H (j_startI s0 hC ha h0 r hN) (Dn := { nx := fun _ H' => Q .non H', rt := Q }) fun o ho => by
      obtain ⟨ρ, cs', d0, rfl, hρ, w⟩ := ho
      intro σ G0 G j
      obtain ⟨ov, e1, _, f2, f3⟩ := j.get hρ
      exact kk cs' G0 G w j.hp f2 f3
    exact ⟨t, h1, h2⟩
structure FnIL (P : Program) (w : World) (K : PySem.W.Frag) (mg : Str → Option Value) (base : Heap) (cn : Str) (k : Nat) (R : RIL) : Prop where
  ex : ∃ C f fd ps, PySem.W.nsIn K mainGlobals cn = some (some (.ref C)) ∧ mg cn = some (.ref C) ∧ Mk K C f ∧ FnOk P w K mg base CX0 k f fd ps (spIL K cn R) ∧ Binds K fd ps []
end
theorem ec_make {X : Cx} {ρ : En} {e : Expr} {pos : Pos} {cn : Str} {k : Nat} {R : RIL} {es : List Expr} {ds : List D} {Ψ : Addr → Cs → Prop} {p : Pos} (G : FnIL X.prog X.w X.K X.mg X.base cn k R) (hr : Room (k + 1) X.A) (hg : Gl X cn) (ha : AD X ρ (e :: es) ds) (hR : ∀ a, R a ds (Ψ a))
    (hdb : (cn == ("__debug__" : Str)) = false := by decide +kernel) (he : starEach (e :: es) X.env = (false, eval e X.env) :: starEach es X.env := by rfl) (hpl : (backTo pos (starEach es X.env)).any (·.1) = false := by rfl) :
    EC X ρ (.Call (.Name cn p) (e :: es) [] pos) Ψ := fun B0 B σ H0 H Q j kk => by
  obtain ⟨C, f, fd, ps, hC, hm, M, F, hb⟩ := G.ex
  refine RE.of (pe_make (E := E0) M F hr hg hm hb .nil pass0 pa_star hdb he hpl) (ha B0 B σ H0 H _ j fun vs G0 G g r => ?_)
  intro x dx hx hdx hne
  rw [List.append_nil]
  have g0x : G0 x = none := g.sh.free hx
  have g0d : G0 dx = none := g.sh.free hdx
  have s1 : Same G0 (upd (upd G dx (.own x)) x (.ins C dx [])) := fun b u q => by
    rw [upd_ne (ne_of_none q g0x), upd_ne (ne_of_none q g0d)]
    exact g.sh b u q
  have sE : Same G (er (upd (upd G dx (.own x)) x (.ins C dx [])) x) := fun b u q => by
    have n1 := ne_of_none q hx
    rw [er_ne n1, upd_ne n1, upd_ne (ne_of_none q hdx)]
    exact q
  refine ⟨G0, x, C, dx, ds, vs, Ψ x, rfl, hC, s1, upd_same, g0x, r, hR x, fun cs' L0 L w gg hc nd => ⟨rfl, ?_⟩⟩
  refine kk x cs' L0 L w (g.trans ⟨gg.s0, gg.sh, sE.trans gg.sB, fun b u q nt q' => gg.fr b u (sE b u q) nt q'⟩) (fun p hp => ?_) nd
  obtain ⟨o, q1, q2, q3, q4⟩ := (hc p hp).ex
  exact ⟨o, q1, q2, (g.sB.trans sE).free q3, q4⟩
/-! ### fields of what a slot owns with cells -/
section
variable {X : Cx} {ρ : En} {e : Expr} {pos : Pos} {cn f : Str} {ns fs : List Str} {ds : List D} {d : D}
/-- e.f, e an instance that slot s owns -/
theorem ed_fldC (s i : Nat) {a : Addr} {cs : Cs} {d0 : D} (kl : Kl X.K X.mg cn fs) (hρ : ρ[s]? = some (.ox cs d0)) (hm : (a, OC.ins cn ns ds) ∈ cs) (he : ED X ρ e (.ad a)) (hn : ns[i]? = some f := by rfl) (hd : ds[i]? = some d := by rfl) (hu : (ns.take i).contains f = false := by decide +kernel) (hf : f ∈ fs := by decide +kernel)
    (hb : attributeBase e f X.env (eval e X.env) = eval e X.env := by rfl) : ED X ρ (.Attribute e f pos) d := fun B0 B σ H0 H Q j k => by
  refine RE.of (pe_fld pe_star hb) (he B0 B σ H0 H _ j fun v G0 G g r => ?_)
  cases (show v = .ref a from r)
  obtain ⟨o, h1, h2, h3, vs, C, dx, rfl, hC, hlen, hvs⟩ := (j.grow g).cell hρ hm
  obtain ⟨C', hC', hmc, hc, hk, hna⟩ := kl.ex
  rw [hC] at hC'; cases hC'
  obtain ⟨v, hv', rv⟩ := DRs.get hvs hd
  exact ⟨a, C, dx, _, v, rfl, h1, hc.cl, hna f hf, zip_at hn hu hv', k v G0 G g rv⟩
theorem putC_hd {a : Addr} {c c' : OC} {cs : Cs} (nd : (pl ((a, c) :: cs)).Nodup) : putC ((a, c) :: cs) a c' = (a, c') :: cs := by
  unfold putC
  simp only [List.map_cons, if_pos]
  congr 1
  conv => rhs; rw [← List.map_id cs]
  refine List.map_congr_left fun p hp => ?_
  have : p.1 ≠ a := fun z => (List.nodup_cons.mp nd).1 (z ▸ List.mem_map.mpr ⟨p, hp, rfl⟩)
  rw [if_neg this]; rfl
/-- self.f = e, a new field of shared data -/
theorem ws_setFC (s : Nat) {a : Addr} {x : Str} {p pos' : Pos} {value : Expr} {cs : Cs} {Φ : Out → Prop} (kl : Kl X.K X.mg cn fs) (hρ : ρ[s]? = some (.ox ((a, .ins cn ns ds) :: cs) (.ad a))) (hv : ED X ρ value d) (hΦ : Φ (.nx (ρ.set s (.ox ((a, .ins cn (ns ++ [f]) (ds ++ [d])) :: cs) (.ad a)))))
    (hnew : ns.contains f = false := by decide +kernel) (hf : f ∈ fs := by decide +kernel) (hlt : ns.length < 1000 := by decide)
    (hN : X.N[s]? = some x := by rfl) (hvis : Vis X.env.scope x := by first | exact Or.inl rfl | exact Or.inr (Or.inl rfl) | exact Or.inr (Or.inr rfl)) (hdb : (x == ("__debug__" : Str)) = false := by decide) (hcd : (x == ("__classdict__" : Str)) = false := by decide)
    (hs : swapsWith value (some (.Attribute (.Name x p) f pos')) pos.line X.env = pure false := by rfl) : WS X (.Assign [.Attribute (.Name x p) f pos'] value pos) ρ Φ := fun B0 B σ H0 H Dn j k => by
  refine ⟨_, ps_fld (pe_var hN hvis hdb hcd) pe_star hs, hv B0 B σ H0 H _ j fun v G0 G g r => ?_⟩
  have j1 := j.grow g
  obtain ⟨ov, e1, ⟨v1, rfl, rv⟩, hcs, nd⟩ := j1.get hρ
  cases (show v1 = .ref a from rv)
  obtain ⟨o, h1, h2, h3, vs, C, dx, rfl, hC, hlen, hvs⟩ := (hcs _ (List.mem_cons_self ..)).ex
  obtain ⟨C', hC', hm, hc, hk, hna⟩ := kl.ex
  rw [hC] at hC'; cases hC'
  have hl : (ns.zip vs).length < 1000 := by rw [List.length_zip]; omega
  refine ⟨_, e1, a, C, dx, _, rfl, h1, hc.cl, hna f hf, hl, ?_⟩
  rw [putF_new hnew hlen]
  have j2 := j1.put (c' := .ins cn (ns ++ [f]) (ds ++ [d])) (o := .ins C dx ((ns ++ [f]).zip (vs ++ [v]))) hρ (List.mem_cons_self ..) ⟨vs ++ [v], C, dx, rfl, hC, by simp [hlen], DRs.app hvs (DRs.one r)⟩
  rw [putC_hd nd] at j2
  exact k _ hΦ _ _ _ j2
/-- self.f = e, a new field with a new thing -/
theorem ws_setFO (s : Nat) {a : Addr} {x : Str} {p pos' : Pos} {value : Expr} {cs : Cs} {c : OC} {Φ : Out → Prop} (kl : Kl X.K X.mg cn fs) (hρ : ρ[s]? = some (.ox ((a, .ins cn ns ds) :: cs) (.ad a))) (hv : EO X ρ value c) (hΦ : ∀ q, Φ (.nx (ρ.set s (.ox ((a, .ins cn (ns ++ [f]) (ds ++ [.ad q])) :: (cs ++ [(q, c)])) (.ad a)))))
    (hnew : ns.contains f = false := by decide +kernel) (hf : f ∈ fs := by decide +kernel) (hlt : ns.length < 1000 := by decide)
    (hN : X.N[s]? = some x := by rfl) (hvis : Vis X.env.scope x := by first | exact Or.inl rfl | exact Or.inr (Or.inl rfl) | exact Or.inr (Or.inr rfl)) (hdb : (x == ("__debug__" : Str)) = false := by decide) (hcd : (x == ("__classdict__" : Str)) = false := by decide)
    (hs : swapsWith value (some (.Attribute (.Name x p) f pos')) pos.line X.env = pure false := by rfl) : WS X (.Assign [.Attribute (.Name x p) f pos'] value pos) ρ Φ := fun B0 B σ H0 H Dn j k => by
  refine ⟨_, ps_fld (pe_var hN hvis hdb hcd) pe_star hs, hv B0 B σ H0 H _ j fun q oq G0 G g q1 q2 q3 q4 => ?_⟩
  have j1 := j.more g hρ q1 q2 q3 q4
  have hlt' : s < ρ.length := (List.getElem?_eq_some_iff.mp hρ).1
  obtain ⟨ov, e1, ⟨v1, rfl, rv⟩, hcs, nd⟩ := j1.get (i := s) (s := .ox ((a, .ins cn ns ds) :: (cs ++ [(q, c)])) (.ad a)) (by rw [List.getElem?_set_self hlt']; rfl)
  cases (show v1 = .ref a from rv)
  obtain ⟨o, h1, h2, h3, vs, C, dx, rfl, hC, hlen, hvs⟩ := (hcs _ (List.mem_cons_self ..)).ex
  obtain ⟨C', hC', hm, hc, hk, hna⟩ := kl.ex
  rw [hC] at hC'; cases hC'
  have hl : (ns.zip vs).length < 1000 := by rw [List.length_zip]; omega
  refine ⟨_, e1, a, C, dx, _, rfl, h1, hc.cl, hna f hf, hl, ?_⟩
  rw [putF_new hnew hlen]
  have j2 := j1.put (i := s) (cs := (a, .ins cn ns ds) :: (cs ++ [(q, c)])) (d := .ad a) (c' := .ins cn (ns ++ [f]) (ds ++ [.ad q])) (o := .ins C dx ((ns ++ [f]).zip (vs ++ [.ref q]))) (by rw [List.getElem?_set_self hlt']; rfl) (List.mem_cons_self ..) ⟨vs ++ [.ref q], C, dx, rfl, hC, by simp [hlen], DRs.app hvs (DRs.one (d := .ad q) (v := V.ref q) rfl)⟩
  rw [putC_hd nd, List.set_set] at j2
  exact k _ (hΦ q) _ _ _ j2
/-- a cell of a field is given to all -/
theorem ws_shareF (s i : Nat) {a q : Addr} {c : OC} {cs : Cs} {rest : List Stmt} {Φ : Out → Prop} (hρ : ρ[s]? = some (.ox ((a, .ins cn ns ds) :: (q, c) :: cs) (.ad a))) (hd : ds[i]? = some (.ad q)) (h : WSs X rest (ρ.set s (.ox ((a, .ins cn ns (ds.set i c.d)) :: cs) (.ad a))) Φ) : WSs X rest ρ Φ := fun B0 B σ H0 H Dn j k => by
  obtain ⟨ov, e1, ⟨v1, rfl, rv⟩, hcs, nd⟩ := j.get hρ
  cases (show v1 = .ref a from rv)
  have nd' : a ≠ q ∧ a ∉ pl cs ∧ q ∉ pl cs ∧ (pl cs).Nodup := by
    have h1 := nd
    simp only [List.map_cons, List.nodup_cons, List.mem_cons, not_or] at h1
    exact ⟨h1.1.1, h1.1.2, h1.2.1, h1.2.2⟩
  obtain ⟨o, h1, h2, h3, vs, C, dx, rfl, hC, hlen, hvs⟩ := (hcs _ (List.mem_cons_self ..)).ex
  obtain ⟨oq, q1, q2, q3, q4⟩ := (hcs (q, c) (List.mem_cons_of_mem _ (List.mem_cons_self ..))).ex
  have s0 : Same H0 (upd H0 q oq) := fun b u e => upd_keep e (fun z => by subst z; rw [q2] at e; cases e)
  obtain ⟨v, hv, rv'⟩ := DRs.get hvs hd
  cases (show v = .ref q from rv')
  obtain ⟨j1, _⟩ := j.shareAt (a := q) (c := c) (o := oq) (s' := .ox ((a, .ins cn ns (ds.set i c.d)) :: cs) (.ad a)) hρ e1 (by show q ∈ _; simp) q1 q4 (fun b w => by
    have w' : b ∈ pl ((a, OC.ins cn ns (ds.set i c.d)) :: cs) := w
    simp only [pl, List.map_cons, List.mem_cons] at w'
    rcases w' with rfl | w'
    · exact ⟨by show b ∈ _; simp, nd'.1⟩
    · exact ⟨by show b ∈ _; simp only [List.map_cons, List.mem_cons]; exact .inr (.inr w'), fun z => nd'.2.2.1 (z ▸ w')⟩) fun r => ⟨⟨_, rfl, rfl⟩, fun p hp => by
      rcases List.mem_cons.mp hp with rfl | hp
      · refine ⟨_, h1, by rw [upd_ne nd'.1]; exact h2, h3, vs, C, dx, rfl, hC, hlen, ?_⟩
        have e := DRs.set r i (DRs.mono s0 _ _ hvs)
        have ev : vs.set i (.ref q) = vs := by
          refine List.ext_getElem? fun m => ?_
          by_cases hm : m = i
          · subst hm
            rw [List.getElem?_set_self (List.getElem?_eq_some_iff.mp hv).1, hv]
          · rw [List.getElem?_set_ne (Ne.symm hm)]
        rw [ev] at e
        exact e
      · obtain ⟨o, f1, f2, f3, f4⟩ := (hcs p (List.mem_cons_of_mem _ (List.mem_cons_of_mem _ hp))).ex
        exact ⟨o, f1, by rw [upd_ne (fun z => nd'.2.2.1 (by rw [← z]; exact List.mem_map.mpr ⟨p, hp, rfl⟩))]; exact f2, f3, f4.mono s0⟩, by simp only [List.map_cons, List.nodup_cons]; exact ⟨nd'.2.1, nd'.2.2.2⟩⟩
  exact h B0 B σ _ H Dn j1 k
end
end DL

/-! Dicts with ints or texts as keys: read where they are shared, written where a slot owns them; what a slot owns, looked at; max with a default. -/
namespace DL
open PySem PySem.Spec PyProof.Rows L2
/-! ### a dict's item -/
/-- what stands at a key -/
def lookK : List Key → List D → Key → Option D
  | k0 :: ks, d :: ds, k => if k0 = k then some d else lookK ks ds k
  | _, _, _ => none
theorem lookK_val {K : PySem.W.Frag} {H : Hp} {k : Key} : ∀ {ks : List Key} {ds : List D} {vs : List V} {d : D}, DRs K H ds vs → lookK ks ds k = some d → ∃ v, valV (ks.zip vs) k = some v ∧ DR K H d v
  | [], ds, vs, d, h, e => by simp [lookK] at e
  | k0 :: ks, [], vs, d, h, e => by simp [lookK] at e
  | k0 :: ks, d0 :: ds, vs, d, h, e => by
    obtain ⟨v, r, rfl, h1, h2⟩ := h
    by_cases q : k0 = k
    · rw [lookK, if_pos q] at e; cases e
      exact ⟨v, by rw [List.zip_cons_cons]; exact valV_pos q, h1⟩
    · rw [lookK, if_neg q] at e
      obtain ⟨u, e1, e2⟩ := lookK_val h2 e
      exact ⟨u, by rw [List.zip_cons_cons, valV_neg (p := (k0, v)) q]; exact e1, e2⟩
def hasK (ks : List Key) (k : Key) : Bool := ks.any fun j => decide (j = k)
theorem hasK_iff {ks : List Key} {k : Key} : hasK ks k = true ↔ k ∈ ks := by
  unfold hasK
  rw [List.any_eq_true]
  exact ⟨fun ⟨j, h1, h2⟩ => of_decide_eq_true h2 ▸ h1, fun h => ⟨k, h, decide_eq_true rfl⟩⟩
theorem hasK_not {ks : List Key} {k : Key} : hasK ks k = false ↔ k ∉ ks := by
  rw [← hasK_iff]; cases hasK ks k <;> simp
theorem lookK_has {k : Key} : ∀ {ks : List Key} {ds : List D} {d : D}, lookK ks ds k = some d → hasK ks k = true
  | [], ds, d, e => by simp [lookK] at e
  | k0 :: ks, [], d, e => by simp [lookK] at e
  | k0 :: ks, d0 :: ds, d, e => by
    by_cases q : k0 = k
    · simp [hasK, q]
    · rw [lookK, if_neg q] at e
      have := lookK_has e
      unfold hasK at this ⊢
      rw [List.any_cons, this, Bool.or_true]
theorem lookK_isSome {K : PySem.W.Frag} {H : Hp} {k : Key} : ∀ {ks : List Key} {ds : List D} {vs : List V}, ks.length = vs.length → DRs K H ds vs → (valV (ks.zip vs) k).isSome = hasK ks k
  | [], ds, vs, _, h => by simp [valV, hasK]
  | k0 :: ks, [], vs, l, h => by cases (show vs = [] from h); simp at l
  | k0 :: ks, d0 :: ds, vs, l, h => by
    obtain ⟨v, r, rfl, h1, h2⟩ := h
    rw [List.zip_cons_cons]
    by_cases q : k0 = k
    · rw [valV_pos (p := (k0, v)) q]; simp [q, hasK]
    · rw [valV_neg (p := (k0, v)) q, lookK_isSome (by simpa using l) h2]
      simp [hasK, q]
theorem lookK_get : ∀ {ks : List Key} {ds : List D} {i : Nat} {k : Key} {d : D}, ks.Nodup → ks[i]? = some k → ds[i]? = some d → lookK ks ds k = some d
  | [], ds, i, k, d, _, h, _ => by simp at h
  | k0 :: ks, [], i, k, d, _, _, h => by simp at h
  | k0 :: ks, d0 :: ds, 0, k, d, n, h1, h2 => by
    simp at h1 h2; subst h1; subst h2; simp [lookK]
  | k0 :: ks, d0 :: ds, i + 1, k, d, n, h1, h2 => by
    simp only [List.getElem?_cons_succ] at h1 h2
    have n' := List.nodup_cons.mp n
    have : k0 ≠ k := fun e => n'.1 (e ▸ List.mem_of_getElem? h1)
    rw [lookK, if_neg this]
    exact lookK_get n'.2 h1 h2
section
variable {X : Cx} {ρ : En} {Φ : Out → Prop} {e a b o : Expr} {pos : Pos} {d : D} {rest : List Stmt}
/-- d[k], d a shared dict -/
theorem ed_dix {ks : List Key} {ds : List D} {k0 : Key} (hu : X.A.units + 64 < cLine) (ho : ED X ρ o (.dk ks ds)) (he : ED X ρ e (kD k0)) (h : lookK ks ds k0 = some d) (hs : NoSl e := by exact fun _ _ => rfl) : ED X ρ (.Subscript o e pos) d := fun B0 B σ H0 H Q j kk => by
  refine RE.of (pe_dget (by omega) pe_star pe_star hs) (ho B0 B σ H0 H _ j fun x G0 G g r => ?_)
  refine he B0 B σ G0 G _ (j.grow g) fun y L0 L g2 r2 => ?_
  obtain ⟨p, vs, rfl, h1, h2, h3⟩ := DR.mono g2.s0 _ _ r
  rw [kD_val r2]
  obtain ⟨v, e1, e2⟩ := lookK_val h3 h
  exact ⟨p, v, rfl, .inl ⟨_, k0, Same.rd g2.sh h1, rfl, e1.symm⟩, kk v L0 L (g.trans g2) e2⟩
theorem op_inK (hu : X.A.units + 1 < cLine) : OpR X (compareOp .In) (fun x y H Q => ∃ (p : Addr) (o : Option V), y = .ref p ∧ DGet H p x o ∧ Q (.bl o.isSome) H) := by
  rintro pins s σ H x y v u Q I rx ry ⟨p, o, rfl, g, q⟩
  cases (show u = Value.ref p from ry)
  exact d_in hu I g rx fun s' I' => ⟨.bl o.isSome, H, I', rfl, q⟩
theorem op_notInK (hu : X.A.units + 1 < cLine) : OpR X (compareOp .NotIn) (fun x y H Q => ∃ (p : Addr) (o : Option V), y = .ref p ∧ DGet H p x o ∧ Q (.bl (!o.isSome)) H) := by
  rintro pins s σ H x y v u Q I rx ry ⟨p, o, rfl, g, q⟩
  cases (show u = Value.ref p from ry)
  exact d_notIn hu I g rx fun s' I' => ⟨.bl (!o.isSome), H, I', rfl, q⟩
theorem c2_inDk {ks : List Key} {ds : List D} {k0 : Key} {d0 : D} (hu : X.A.units + 64 < cLine) (h0 : d0 = kD k0) : C2 X .In d0 (.dk ks ds) (.bl (hasK ks k0)) := ⟨_, op_inK (by omega), fun H0 H x y Q s r1 r2 kk => by
  subst h0
  rw [kD_val r1]
  obtain ⟨p, vs, rfl, h1, h2, h3⟩ := r2
  exact ⟨p, valV (ks.zip vs) k0, rfl, .inl ⟨_, k0, Same.rd s h1, rfl, rfl⟩, kk _ H0 H (JH.refl s) (by rw [lookK_isSome h2 h3]; rfl)⟩⟩
theorem c2_notInDk {ks : List Key} {ds : List D} {k0 : Key} {d0 : D} (hu : X.A.units + 64 < cLine) (h0 : d0 = kD k0) : C2 X .NotIn d0 (.dk ks ds) (.bl (!hasK ks k0)) := ⟨_, op_notInK (by omega), fun H0 H x y Q s r1 r2 kk => by
  subst h0
  rw [kD_val r1]
  obtain ⟨p, vs, rfl, h1, h2, h3⟩ := r2
  exact ⟨p, valV (ks.zip vs) k0, rfl, .inl ⟨_, k0, Same.rd s h1, rfl, rfl⟩, kk _ H0 H (JH.refl s) (by rw [lookK_isSome h2 h3]; rfl)⟩⟩
/-- e[k] = v, e a dict at a place, k a new key -/
theorem ws_dputA (i : Nat) {p : Addr} {cs : Cs} {d0 : D} {ks : List Key} {ds : List D} {k0 : Key} {p2 : Pos} (hu : X.A.units + 64 < cLine) (hi : ρ[i]? = some (.ox cs d0)) (hm : (p, OC.dk ks ds) ∈ cs) (ha : ED X ρ a (.ad p)) (hb : ED X ρ b (kD k0)) (he : ED X ρ e d) (hn : k0 ∉ ks) (hl : ks.length < sizeLine)
    (hΦ : Φ (.nx (ρ.set i (.ox (putC cs p (.dk (ks ++ [k0]) (ds ++ [d]))) d0)))) (hs : swapsWith e (some (.Subscript a b p2)) pos.line X.env = pure false := by rfl) : WS X (.Assign [.Subscript a b p2] e pos) ρ Φ := fun B0 B σ H0 H Dn j kk => by
  refine ⟨_, ps_dput (by omega) pe_star pe_star pe_star hs, he B0 B σ H0 H _ j fun v G0 G g1 r1 => ha B0 B σ G0 G _ (j.grow g1) fun x L0 L g2 r2 => hb B0 B σ L0 L _ ((j.grow g1).grow g2) fun y M0 M g3 r3 => ?_⟩
  cases (show x = .ref p from r2)
  rw [kD_val r3]
  have j1 := ((j.grow g1).grow g2).grow g3
  obtain ⟨o, h1, h2, h3, vs, rfl, hlen, rr⟩ := j1.cell hi hm
  refine ⟨p, _, rfl, DPut.k h1 (by rw [List.length_zip, ← hlen]; omega), ?_⟩
  rw [putK_zip hlen hn]
  exact kk _ hΦ _ M0 _ (j1.put hi hm ⟨_, rfl, by simp [hlen], DRs.app rr (DRs.one (DR.mono (g2.trans g3).s0 _ _ r1))⟩)
/-- x[k] = v, x a dict of the def's own, k a new key -/
theorem ws_dputO (i : Nat) {x : Str} {ks : List Key} {ds : List D} {k0 : Key} {p1 p2 : Pos} (hu : X.A.units + 64 < cLine) (hi : ρ[i]? = some (.ow (.dk ks ds))) (hb : ED X ρ b (kD k0)) (he : ED X ρ e d) (hn : k0 ∉ ks) (hl : ks.length < sizeLine)
    (hΦ : Φ (.nx (ρ.set i (.ow (.dk (ks ++ [k0]) (ds ++ [d])))))) (hs : swapsWith e (some (.Subscript (.Name x p1) b p2)) pos.line X.env = pure false := by rfl)
    (hN : X.N[i]? = some x := by rfl) (hv : Vis X.env.scope x := by first | exact Or.inl rfl | exact Or.inr (Or.inl rfl) | exact Or.inr (Or.inr rfl)) (hd : (x == ("__debug__" : Str)) = false := by decide) (hcd : (x == ("__classdict__" : Str)) = false := by decide) : WS X (.Assign [.Subscript (.Name x p1) b p2] e pos) ρ Φ := fun B0 B σ H0 H Dn j kk => by
  refine ⟨_, ps_dput (by omega) (pe_var hN hv hd hcd) pe_star pe_star hs, he B0 B σ H0 H _ j fun v G0 G g1 r1 => ?_⟩
  obtain ⟨ov, e0, p, o, rfl, _⟩ := (j.grow g1).get hi
  refine ⟨_, e0, hb B0 B σ G0 G _ (j.grow g1) fun y M0 M g3 r3 => ?_⟩
  rw [kD_val r3]
  have j1 := (j.grow g1).grow g3
  obtain ⟨ov', e0', p', o', e3, h1, h2, h3, vs, rfl, hlen, rr⟩ := j1.get hi
  rw [e0] at e0'; cases e0'; cases e3
  refine ⟨p, _, rfl, DPut.k h1 (by rw [List.length_zip, ← hlen]; omega), ?_⟩
  rw [putK_zip hlen hn]
  exact kk _ hΦ _ M0 _ (j1.write hi e0 ⟨_, rfl, by simp [hlen], DRs.app rr (DRs.one (DR.mono g3.s0 _ _ r1))⟩)
end
theorem putC_set {cs : Cs} {i : Nat} {p : Addr} {c c' : OC} (nd : (pl cs).Nodup) (h : cs[i]? = some (p, c)) : putC cs p c' = cs.set i (p, c') := by
  unfold putC
  refine List.ext_getElem? fun k => ?_
  rw [List.getElem?_map, List.getElem?_set]
  by_cases e : i = k
  · subst e
    rw [if_pos rfl, if_pos (List.getElem?_eq_some_iff.mp h).1, h]
    simp
  · rw [if_neg e]
    cases hk : cs[k]? with
    | none => rfl
    | some y =>
      have : y.1 ≠ p := fun z => e (by
        have h1 : (pl cs)[i]? = some p := by rw [List.getElem?_map, h]; rfl
        have h2 : (pl cs)[k]? = some p := by rw [List.getElem?_map, hk, ← z]; rfl
        exact (List.getElem?_inj (List.getElem?_eq_some_iff.mp h1).1 nd).mp (h1.trans h2.symm))
      show some (if y.1 = p then (p, c') else y) = some y
      rw [if_neg this]
section
variable {X : Cx} {ρ : En} {Φ : Out → Prop} {e a b : Expr} {pos : Pos} {d : D}
/-- the same, by the cell's number -/
theorem ws_dputI (i m : Nat) {p : Addr} {cs : Cs} {d0 : D} {ks : List Key} {ds : List D} {k0 : Key} {p2 : Pos} (hu : X.A.units + 64 < cLine) (hi : ρ[i]? = some (.ox cs d0)) (hm : cs[m]? = some (p, OC.dk ks ds)) (ha : ED X ρ a (.ad p)) (hb : ED X ρ b (kD k0)) (he : ED X ρ e d) (hn : k0 ∉ ks) (hl : ks.length < sizeLine)
    (hΦ : Φ (.nx (ρ.set i (.ox (cs.set m (p, .dk (ks ++ [k0]) (ds ++ [d]))) d0)))) (hs : swapsWith e (some (.Subscript a b p2)) pos.line X.env = pure false := by rfl) : WS X (.Assign [.Subscript a b p2] e pos) ρ Φ := fun B0 B σ H0 H Dn j kk => by
  obtain ⟨_, _, _, _, nd⟩ := j.get hi
  exact ws_dputA i hu hi (List.mem_iff_getElem?.mpr ⟨m, hm⟩) ha hb he hn hl (by rw [putC_set nd hm]; exact hΦ) hs B0 B σ H0 H Dn j kk
theorem ws_lputI (i m : Nat) {p : Addr} {cs : Cs} {d0 : D} {ds : List D} {n : Int} {q : Nat} {p2 : Pos} (hi : ρ[i]? = some (.ox cs d0)) (hm : cs[m]? = some (p, OC.lst ds)) (ha : ED X ρ a (.ad p)) (hb : ED X ρ b (.int n)) (he : ED X ρ e d) (hn : ixN ds.length n = some q) (hΦ : Φ (.nx (ρ.set i (.ox (cs.set m (p, .lst (ds.set q d))) d0))))
    (hs : swapsWithSole [.Subscript a b p2] e pos.line X.env = pure false := by rfl) (hw : swappedStores [.Subscript a b p2] e X.env = pure none := by rfl) (h1 : (assignEach [.Subscript a b p2] X.env).map (·.2) = [assign (.Subscript a b p2) X.env] := by rfl)
    (hx : ∀ v, assign (.Subscript a b p2) X.env v = (do
      let ov ← holding [v] (eval a X.env)
      let iv ← holding [v, ov] (eval b X.env)
      standAt p2
      holding [v, ov, iv] (setItem ov iv v)
      release [v, ov, iv] []) := by intro _; rfl) : WS X (.Assign [.Subscript a b p2] e pos) ρ Φ := fun B0 B σ H0 H Dn j kk => by
  obtain ⟨_, _, _, _, nd⟩ := j.get hi
  exact ws_lputA i hi (List.mem_iff_getElem?.mpr ⟨m, hm⟩) ha hb he hn (by rw [putC_set nd hm]; exact hΦ) hs hw h1 hx B0 B σ H0 H Dn j kk
theorem ws_appendI (i m : Nat) {p : Addr} {cs : Cs} {d0 : D} {ds : List D} {p2 p3 : Pos} (hi : ρ[i]? = some (.ox cs d0)) (hm : cs[m]? = some (p, OC.lst ds)) (ha : ED X ρ a (.ad p)) (he : ED X ρ e d) (hl : ds.length < sizeLine) (hΦ : Φ (.nx (ρ.set i (.ox (cs.set m (p, .lst (ds ++ [d]))) d0))))
    (hpe : ∀ {to : TE} {ta : TA}, PE X a to → PA X [e] ta → PS X (.Expr (.Call (.Attribute a "append" p2) [e] [] p3) pos) (tDrop (tBM X.K "list" rAppend to ta))) (hs : starEach [e] X.env = (false, eval e X.env) :: starEach [] X.env := by rfl) :
    WS X (.Expr (.Call (.Attribute a "append" p2) [e] [] p3) pos) ρ Φ := fun B0 B σ H0 H Dn j kk => by
  obtain ⟨_, _, _, _, nd⟩ := j.get hi
  exact ws_appendA i hi (List.mem_iff_getElem?.mpr ⟨m, hm⟩) ha he hl (by rw [putC_set nd hm]; exact hΦ) hpe hs B0 B σ H0 H Dn j kk
end
/-! ### looked at -/
/-- data that stands nowhere -/
def fltD : D → Bool
  | .non | .bl _ | .int _ | .str _ | .ad _ | .ty _ => true
  | _ => false
theorem DR.flat {K : PySem.W.Frag} {H H' : Hp} {d : D} {v : V} (f : fltD d = true) (h : DR K H d v) : DR K H' d v := by
  cases d <;> first | exact h | cases f
section
variable {K : PySem.W.Frag} {B0 B H : Hp} {σ : L2.St} {i : Nat} {d : D}
theorem shareAllX : ∀ {cs : Cs} {H0 : Hp} {ρ : En}, J K B0 B σ H0 H ρ → ρ[i]? = some (.ox cs d) → ∃ H0', J K B0 B σ H0' H (ρ.set i (.sh d)) ∧ Same H0 H0' ∧ (∀ p ∈ cs, DR K H0' p.2.d (.ref p.1)) ∧ (∀ b, b ∉ pl cs → H0' b = H0 b) ∧ ∀ b ∈ pl cs, H0 b = none
  | [], H0, ρ, j, h => by
    obtain ⟨ov, e1, h1, h2, h3⟩ := j.get h
    exact ⟨H0, j.setSl (s := .sh d) e1 h1 (fun a w => w.elim), Same.refl _, fun p hp => by simp at hp, fun _ _ => rfl, fun b hb => by simp at hb⟩
  | (a, c) :: cs, H0, ρ, j, h => by
    obtain ⟨ov, e1, ⟨v, h1, h1'⟩, h2, h3⟩ := j.get h
    obtain ⟨o, f1, f2, f3, f4⟩ := j.cell h (List.mem_cons_self ..)
    have nd := List.nodup_cons.mp h3
    have s0 : Same H0 (upd H0 a o) := fun b u e => upd_keep e (fun z => by subst z; rw [f2] at e; cases e)
    obtain ⟨j1, s1⟩ := j.shareAt (s' := .ox cs d) (c := c) h e1 (List.mem_cons_self ..) f1 f4 (fun b w => ⟨List.mem_cons_of_mem _ w, fun z => nd.1 (z ▸ w)⟩) fun r => ⟨⟨v, h1, DR.mono s0 _ _ h1'⟩, fun p hp => by
      obtain ⟨ob, g2, g3, g4, g5⟩ := (h2 p (List.mem_cons_of_mem _ hp)).ex
      exact ⟨ob, g2, by rw [upd_ne (fun z => nd.1 (by rw [← z]; exact List.mem_map.mpr ⟨p, hp, rfl⟩))]; exact g3, g4, g5.mono s0⟩, nd.2⟩
    obtain ⟨H1, j3, s3, r3, n3, z3⟩ := shareAllX (cs := cs) j1 (by rw [List.getElem?_set_self (List.getElem?_eq_some_iff.mp h).1])
    rw [List.set_set] at j3
    refine ⟨H1, j3, s1.trans s3, fun p hp => ?_, fun b hb => ?_, fun b hb => ?_⟩
    · rcases List.mem_cons.mp hp with rfl | hp
      · exact DR.mono s3 _ _ (OCR.dr f2 f4)
      · exact r3 p hp
    · have hb' : b ≠ a ∧ b ∉ pl cs := by simpa [pl] using hb
      rw [n3 b hb'.2, upd_ne hb'.1]
    · have hb' : b = a ∨ b ∈ pl cs := by simpa [pl] using hb
      rcases hb' with rfl | hb'
      · exact f2
      · have q := z3 b hb'
        by_cases e : b = a
        · subst e; exact f2
        · rwa [upd_ne e] at q
/-- what was shown is a slot's own again -/
theorem JH.unshow {H0 H1 H G0 G : Hp} {as : List Addr} (s : Same H0 H1) (n : ∀ b, b ∉ as → H1 b = H0 b) (z : ∀ b ∈ as, H0 b = none) (g : JH H1 H G0 G) : JH H0 H (ers G0 as) G :=
  ⟨fun b u e => by rw [ers_out fun hb => by rw [z b hb] at e; cases e]; exact g.s0 b u (s b u e), ers_sub.trans g.sh, g.sB, fun a o h nt e => by
    by_cases ha : a ∈ as
    · exact ers_in ha
    · rw [ers_out ha]; exact g.fr a o h nt (by rw [n a ha]; exact e)⟩
end
section
variable {X : Cx} {ρ : En} {e : Expr} {d d' d0 : D} {cs : Cs}
/-- the cells of slot i are shown while e is asked, which gives what stands nowhere -/
theorem ed_show (i : Nat) (d' : D) (hi : ρ[i]? = some (.ox cs d0)) (hd : ∀ (K : PySem.W.Frag) (H : Hp) v, (∀ p ∈ cs, DR K H p.2.d (.ref p.1)) → DR K H d0 v → DR K H d' v) (h : ED X (ρ.set i (.sh d')) e d) (hf : fltD d = true := by rfl) : ED X ρ e d := fun B0 B σ H0 H Q j kk => by
  obtain ⟨H1, j1, s1, r1, n1, z1⟩ := shareAllX j hi
  have hl : i < σ.length := by rw [j.len]; exact (List.getElem?_eq_some_iff.mp hi).1
  obtain ⟨ov, e1, v, e2, r2⟩ := j1.get (i := i) (s := .sh d0) (by rw [List.getElem?_set_self (by rw [← j.len]; exact hl)])
  have j2 := j1.setSl (i := i) (s := .sh d') e1 ⟨v, e2, hd _ _ v r1 r2⟩ fun a w => w.elim
  rw [List.set_set] at j2
  exact h B0 B σ H1 H Q j2 fun v G0 G g r => kk v (ers G0 (pl cs)) G (g.unshow s1 n1 z1) (DR.flat hf r)
theorem td_show (i : Nat) (d' : D) {k : Bool} (hi : ρ[i]? = some (.ox cs d0)) (hd : ∀ (K : PySem.W.Frag) (H : Hp) v, (∀ p ∈ cs, DR K H p.2.d (.ref p.1)) → DR K H d0 v → DR K H d' v) (h : TD X (ρ.set i (.sh d')) e k) : TD X ρ e k := fun B0 B σ H0 H Q j kk => by
  obtain ⟨H1, j1, s1, r1, n1, z1⟩ := shareAllX j hi
  have hl : i < σ.length := by rw [j.len]; exact (List.getElem?_eq_some_iff.mp hi).1
  obtain ⟨ov, e1, v, e2, r2⟩ := j1.get (i := i) (s := .sh d0) (by rw [List.getElem?_set_self (by rw [← j.len]; exact hl)])
  have j2 := j1.setSl (i := i) (s := .sh d') e1 ⟨v, e2, hd _ _ v r1 r2⟩ fun a w => w.elim
  rw [List.set_set] at j2
  exact h B0 B σ H1 H Q j2 fun G0 G g => kk (ers G0 (pl cs)) G (g.unshow s1 n1 z1)
end
/-! ### max(xs, default=n) -/
def maxI : Int → List Int → Int
  | d, [] => d
  | _, x :: xs => xs.foldl max x
theorem maxOf_int : ∀ (xs : List Int) (x : Int), PySem.W.maxOf x xs = xs.foldl max x
  | [], x => rfl
  | y :: ys, x => by
    show PySem.W.maxOf (if decide (x < y) = true then y else x) ys = ys.foldl max (max x y)
    rw [maxOf_int ys]
    congr 1
    by_cases h : x < y
    · rw [if_pos (decide_eq_true h)]; omega
    · rw [if_neg (by simpa using h)]; omega
section
variable {X : Cx} {ρ : En} {e a : Expr} {pos : Pos}
theorem call_maxDef (hc : X.calm = true) (hu : X.A.units + 64 < cLine) : CallRK X (.builtin "max") ["default"] (fun vs zs H Q => ∃ (p : Addr) (ns : List Int) (n : Int), vs = [.ref p] ∧ zs = [.int n] ∧ SqL X.K H p (ns.map V.int) ∧ Q (.int (maxI n ns)) H) := by
  intro pins s σ H xs zs us ws Q I r rz h
  obtain ⟨p, ns, n, rfl, rfl, hs, q⟩ := h
  rw [Vals.ref1 r]
  obtain ⟨its, rv, plL, hz⟩ := I.list hs
  cases rz with
  | cons r1 r2 =>
    cases r2
    obtain ⟨t, rfl⟩ := r1
    have hI : IntsAre its ns := ints_of_vals rv
    refine PySem.W.max_list_datum_default (α := Int) (I.ok.hd hc) plL.isList (by simpa using PySem.W.HoldAll.of_ints hI) (by show X.A.units + 1 + 0 < cLine; omega) (fun e h' tk k => ?_) fun y ys i v h' tk e hi hv k => ?_
    · subst e
      have I2 : Inv X pins σ H { s with heap := h', toks := tk } := I.un (Un.kept k) (I.hok.kept k)
      exact ⟨.int n, H, I2, ⟨_, rfl⟩, q⟩
    · subst e
      have I2 : Inv X pins σ H { s with heap := h', toks := tk } := I.un (Un.kept k) (I.hok.kept k)
      have h1 := PySem.W.HoldAll.toInts (PySem.W.HoldAll.cons hv PySem.W.HoldAll.nil)
      cases h1 with
      | cons n' t' _ => exact ⟨.int (PySem.W.maxOf y ys), H, I2, ⟨_, rfl⟩, by rw [maxOf_int]; exact q⟩
/-- max(e, default=n) -/
theorem ed_maxDef {ns : List Int} {n : Int} {x0 x1 p : Pos} {k : Nat} (hc : X.calm = true) (hu : X.A.units + 64 < cLine) (hg : Gl X "max") (hm : X.mg "max" = none) (he : ED X ρ e (.lst (ns.map .int)))
    (h1 : starEach [e] X.env = (false, eval e X.env) :: starEach [] X.env := by rfl) (h1' : backTo pos (starEach [e] X.env) = (false, eval e X.env) :: backTo pos (starEach [] X.env) := by rfl) (h2 : (backTo pos (starEach [e] X.env)).any (·.1) = false := by rfl)
    (h3 : (backToKw pos (keywordEach [⟨some "default", .Constant (.int n) k x0, x1⟩] X.env)).all (·.1.isSome) = true := by rfl) (h4 : (backToKw pos (keywordEach [⟨some "default", .Constant (.int n) k x0, x1⟩] X.env)).any (·.1.isNone) = false := by rfl) (h5 : (backToKw pos (keywordEach [⟨some "default", .Constant (.int n) k x0, x1⟩] X.env)).filterMap (·.1) = [("default" : Str)] := by rfl) :
    ED X ρ (.Call (.Name "max" p) [e] [⟨some "default", .Constant (.int n) k x0, x1⟩] pos) (.int (maxI n ns)) := fun B0 B σ H0 H Q j kk => by
  refine RE.of (pe_callBK (call_maxDef hc hu) hg hm bb_max (pa_cons pe_star pa_nil h1) (pk_cons pe_int pk_nil) (by decide) (by decide) h1' h2 h3 h4 h5) (he B0 B σ H0 H _ j fun v G0 G g r => ?_)
  obtain ⟨l, vs, rfl, hS, rr⟩ := r
  rw [DRs.ints rr] at hS
  exact ⟨l, ns, n, rfl, rfl, g.sh.seq hS, kk _ G0 G g rfl⟩
end
end DL

/-! Libraries: cells by name, with what they hold. -/
namespace DL
open PySem PySem.Spec PyProof.Rows L2
/-- a cell that stands in a library, with its counts and its depth -/
structure LRow where
  r : Rw
  sc : Int
  lc : Int
  dp : Int
abbrev celR (r : Rw) : D := celD r.n r.S r.L r.P
def nmsL (R : List LRow) : List Str := R.map fun x => x.r.n
def keyL (R : List LRow) : List Key := R.map fun x => Sum.inr x.r.n
def cnt (f : LRow → Int) (R : List LRow) (n : Str) : Int := ((R.find? fun x => decide (x.r.n = n)).map f).getD 0
def stepL (R : List LRow) (c : Rw) : List LRow := R ++ [⟨c, (c.S.length : Int) + (c.P.map fun p => p.c * p.r * cnt LRow.sc R p.n).sum, (c.L.length : Int) + (c.P.map fun p => p.c * p.r * cnt LRow.lc R p.n).sum, maxI 0 (c.P.map fun p => cnt LRow.dp R p.n + 1)⟩]
def libL (cs : List Rw) : List LRow := cs.foldl stepL []
theorem libL_snoc (cs : List Rw) (c : Rw) : libL (cs ++ [c]) = stepL (libL cs) c := by unfold libL; rw [List.foldl_append]; rfl
theorem stepL_len (R : List LRow) (c : Rw) : (stepL R c).length = R.length + 1 := by simp [stepL]
theorem stepL_nms (R : List LRow) (c : Rw) : nmsL (stepL R c) = nmsL R ++ [c.n] := by simp [stepL, nmsL]
theorem stepL_key (R : List LRow) (c : Rw) : keyL (stepL R c) = keyL R ++ [Sum.inr c.n] := by simp [stepL, keyL]
theorem libL_rw (cs : List Rw) : (libL cs).map (·.r) = cs := by
  refine snoc_ind (P := fun cs => (libL cs).map (·.r) = cs) rfl (fun l x ih => ?_) cs
  rw [libL_snoc]; unfold stepL; rw [List.map_append, ih]; rfl
theorem libL_nms (cs : List Rw) : nmsL (libL cs) = cs.map (·.n) := by
  unfold nmsL
  conv => rhs; rw [← libL_rw cs]
  rw [List.map_map]; rfl
theorem libL_len (cs : List Rw) : (libL cs).length = cs.length := by
  have := congrArg List.length (libL_rw cs)
  rwa [List.length_map] at this
theorem keyL_len (R : List LRow) : (keyL R).length = R.length := by simp [keyL]
theorem mem_keyL {R : List LRow} {n : Str} : (Sum.inr n : Key) ∈ keyL R ↔ n ∈ nmsL R := by
  unfold keyL nmsL
  simp only [List.mem_map]
  exact ⟨fun ⟨x, h, e⟩ => ⟨x, h, by cases e; rfl⟩, fun ⟨x, h, e⟩ => ⟨x, h, by rw [e]⟩⟩
theorem has_keyL {R : List LRow} {n : Str} : hasK (keyL R) (Sum.inr n) = true ↔ n ∈ nmsL R := by rw [hasK_iff, mem_keyL]
theorem lk_find {g : LRow → D} {n : Str} : ∀ {R : List LRow}, lookK (keyL R) (R.map g) (Sum.inr n) = (R.find? fun x => decide (x.r.n = n)).map g
  | [] => rfl
  | x :: R => by
    show lookK (Sum.inr x.r.n :: keyL R) (g x :: R.map g) (Sum.inr n) = _
    unfold lookK
    by_cases e : x.r.n = n
    · rw [if_pos (by rw [e]), List.find?_cons, decide_eq_true e]; rfl
    · rw [if_neg (fun z => e (by cases z; rfl)), List.find?_cons, decide_eq_false e]
      exact lk_find
theorem find_mem {R : List LRow} {n : Str} (h : n ∈ nmsL R) : ∃ x, x ∈ R ∧ x.r.n = n ∧ R.find? (fun x => decide (x.r.n = n)) = some x := by
  cases hf : R.find? (fun x => decide (x.r.n = n)) with
  | some x => exact ⟨x, List.mem_of_find?_eq_some hf, by simpa using List.find?_some hf, rfl⟩
  | none =>
    obtain ⟨x, hx, e⟩ := List.mem_map.mp h
    exact absurd e (by simpa using List.find?_eq_none.mp hf x hx)
theorem lk_cnt {f : LRow → Int} {R : List LRow} {n : Str} (h : n ∈ nmsL R) : lookK (keyL R) (R.map fun x => D.int (f x)) (Sum.inr n) = some (.int (cnt f R n)) := by
  obtain ⟨x, _, _, hf⟩ := find_mem h
  rw [lk_find]
  unfold cnt
  rw [hf]; rfl
/-- the fields of a library -/
def libF (R : List LRow) : List D := [.dk (keyL R) (R.map fun x => celR x.r), .dk (keyL R) (R.map fun x => .int x.sc), .dk (keyL R) (R.map fun x => .int x.lc), .dk (keyL R) (R.map fun x => .int x.dp)]
abbrev libN : List Str := ["_cells", "_shape_counts", "_label_counts", "_depths"]
abbrev libD (R : List LRow) : D := .obj "Library" libN (libF R)
def libC (a p q s t : Addr) (R : List LRow) : Cs := [(a, .ins "Library" libN [.ad p, .ad q, .ad s, .ad t]), (p, .dk (keyL R) (R.map fun x => celR x.r)), (q, .dk (keyL R) (R.map fun x => .int x.sc)), (s, .dk (keyL R) (R.map fun x => .int x.lc)), (t, .dk (keyL R) (R.map fun x => .int x.dp))]
theorem drs_imp {K : PySem.W.Frag} {H : Hp} : ∀ {ds es : List D} {vs : List V}, ds.length = es.length → (∀ (i : Nat) d e, ds[i]? = some d → es[i]? = some e → ∀ u, DR K H d u → DR K H e u) → DRs K H ds vs → DRs K H es vs
  | [], [], vs, _, _, r => r
  | d :: ds, e :: es, vs, l, h, r => by
    obtain ⟨v, w, rfl, r1, r2⟩ := r
    exact ⟨v, w, rfl, h 0 d e rfl rfl v r1, drs_imp (by simpa using l) (fun i d e h1 h2 => h (i + 1) d e (by simpa using h1) (by simpa using h2)) r2⟩
theorem obj_imp {K : PySem.W.Frag} {H : Hp} {cn : Str} {ns : List Str} {ds es : List D} {v : V} (r : DR K H (.obj cn ns ds) v) (l : ds.length = es.length) (h : ∀ (i : Nat) d e, ds[i]? = some d → es[i]? = some e → ∀ u, DR K H d u → DR K H e u) : DR K H (.obj cn ns es) v := by
  obtain ⟨a, C, dx, vs, h1, hn, h2, h4, h3⟩ := r
  exact ⟨a, C, dx, vs, h1, hn, h2, h4, drs_imp l h h3⟩
theorem lib_show {K : PySem.W.Frag} {H : Hp} {a p q s t : Addr} {R : List LRow} (v : V) (h : ∀ x ∈ libC a p q s t R, DR K H x.2.d (.ref x.1)) (r : DR K H (.ad a) v) : DR K H (libD R) v := by
  cases (show v = .ref a from r)
  refine obj_imp (h (a, .ins "Library" libN [.ad p, .ad q, .ad s, .ad t]) (by simp [libC])) rfl fun i d e h1 h2 u w => ?_
  match i, h1, h2 with
  | 0, h1, h2 => cases h1; cases h2; cases (show u = .ref p from w); exact h (p, .dk (keyL R) (R.map fun x => celR x.r)) (by simp [libC])
  | 1, h1, h2 => cases h1; cases h2; cases (show u = .ref q from w); exact h (q, .dk (keyL R) (R.map fun x => .int x.sc)) (by simp [libC])
  | 2, h1, h2 => cases h1; cases h2; cases (show u = .ref s from w); exact h (s, .dk (keyL R) (R.map fun x => .int x.lc)) (by simp [libC])
  | 3, h1, h2 => cases h1; cases h2; cases (show u = .ref t from w); exact h (t, .dk (keyL R) (R.map fun x => .int x.dp)) (by simp [libC])
  | i + 4, h1, h2 => simp at h1
/-- a cell that a library may take -/
structure CanL (R : List LRow) (c : Rw) : Prop where
  new : c.n ∉ nmsL R
  old : ∀ p ∈ c.P, p.n ∈ nmsL R
  few : c.S.length ≤ 1000 ∧ c.L.length ≤ 1000 ∧ c.P.length ≤ 1000
  bd : ∀ p ∈ c.P, (1 ≤ p.c ∧ p.c ≤ 100) ∧ (1 ≤ p.r ∧ p.r ≤ 100)
def LibOk (cs : List Rw) : Prop := ∀ (k : Nat) c, cs[k]? = some c → CanL (libL (cs.take k)) c
theorem mul_100 {a b : Int} (h : (1 ≤ a ∧ a ≤ 100) ∧ (1 ≤ b ∧ b ≤ 100)) : -(2 ^ 64) < a * b ∧ a * b < 2 ^ 64 := by
  have h1 : a * b ≤ 100 * 100 := Int.mul_le_mul h.1.2 h.2.2 (by omega) (by omega)
  have h2 : 0 ≤ a * b := Int.mul_nonneg (by omega) (by omega)
  omega
/-! ### k25: the law's cells and counts -/
def cD (ns : List Int) (k : Nat) (i : Int) : Int := dr (cellAt ns (1 + (k : Int))) 12 i
def nmI (i : Int) : Str := ("c" : Str) ++ Str.ofString (toString i)
def atC (ns : List Int) (k j : Nat) : Int := ([(k : Int) - 1, cD ns k (3 + (j : Int)) % max 1 (k : Int)] : List Int).getD (cD ns k (6 + (j : Int)) % 2).toNat 0
def colC (ns : List Int) (k j : Nat) : Int := ([1, 100, 1 + cD ns k (9 + (j : Int)) % 100] : List Int).getD (cD ns k (6 + (j : Int)) / 2 % 3).toNat 0
def linC (ns : List Int) (k j : Nat) : Int := ([1, 100, 1 + cD ns k (9 + (j : Int)) / 7 % 100] : List Int).getD (cD ns k (6 + (j : Int)) / 6 % 3).toNat 0
def pnC (ns : List Int) (k : Nat) : Nat := (min (k : Int) (cD ns k 2 % 4)).toNat
def plC (ns : List Int) (k j : Nat) : Pla := ⟨nmI (atC ns k j), (j : Int), 3, -(k : Int), colC ns k j, linC ns k j, 5, (j : Int)⟩
def plsC (ns : List Int) (k i : Nat) : List Pla := (List.range i).map (plC ns k)
def shC (n : Nat) : List Shp := (List.range n).map fun (j : Nat) => (("metal" : Str), (⟨0, 0, 1, 1 + (j : Int)⟩ : Bx))
def laC (n : Nat) : List Lab := (List.range n).map fun (j : Nat) => (⟨"a", "poly", (j : Int), 0⟩ : Lab)
def rwK (ns : List Int) (k : Nat) : Rw := ⟨nmI (k : Int), shC (cD ns k 0 % 3).toNat, laC (cD ns k 1 % 3).toNat, plsC ns k (pnC ns k)⟩
def rwsK (ns : List Int) (k : Nat) : List Rw := (List.range k).map (rwK ns)
abbrev T3 := Int × Int × Int
def t3D (t : T3) : D := .lst (([t.1, t.2.1, t.2.2] : List Int).map .int)
def acc3 (ns : List Int) (k : Nat) (R : List T3) : Nat → T3
  | 0 => (cD ns k 0 % 3, cD ns k 1 % 3, 0)
  | j + 1 => let t := acc3 ns k R j; let r := R.getD (atC ns k j).toNat (0, 0, 0); (t.1 + colC ns k j * linC ns k j * r.1, t.2.1 + colC ns k j * linC ns k j * r.2.1, max t.2.2 (r.2.2 + 1))
def rL (ns : List Int) : Nat → List T3
  | 0 => []
  | k + 1 => rL ns k ++ [acc3 ns k (rL ns k) (pnC ns k)]
theorem rL_len (ns : List Int) : ∀ k, (rL ns k).length = k
  | 0 => rfl
  | k + 1 => by rw [rL, List.length_append, rL_len ns k]; rfl
theorem pnC_le (ns : List Int) (k : Nat) : pnC ns k ≤ 3 ∧ pnC ns k ≤ k := by
  unfold pnC
  have h1 := Int.emod_lt_of_pos (cD ns k 2) (b := 4) (by decide)
  constructor <;> omega
theorem atC_bd (ns : List Int) {k : Nat} (j : Nat) (h : 0 < k) : 0 ≤ atC ns k j ∧ atC ns k j < k := by
  unfold atC
  have h1 := Int.emod_nonneg (cD ns k (3 + (j : Int))) (b := max 1 (k : Int)) (by omega)
  have h2 := Int.emod_lt_of_pos (cD ns k (3 + (j : Int))) (b := max 1 (k : Int)) (by omega)
  have e1 := Int.emod_nonneg (cD ns k (6 + (j : Int))) (b := 2) (by decide)
  have e2 := Int.emod_lt_of_pos (cD ns k (6 + (j : Int))) (b := 2) (by decide)
  have hm : max 1 (k : Int) = k := by omega
  rw [hm] at h1 h2 ⊢
  generalize cD ns k (6 + (j : Int)) % 2 = z at e1 e2
  have : z = 0 ∨ z = 1 := by omega
  rcases this with rfl | rfl
  · show 0 ≤ (k : Int) - 1 ∧ (k : Int) - 1 < k; omega
  · exact ⟨h1, h2⟩
theorem three_bd {x y : Int} {m : Int} (hx : 1 ≤ x ∧ x ≤ 100) : 1 ≤ ([1, 100, x] : List Int).getD (m % 3).toNat 0 ∧ ([1, 100, x] : List Int).getD (m % 3).toNat 0 ≤ 100 := by
  have e1 := Int.emod_nonneg m (b := 3) (by decide)
  have e2 := Int.emod_lt_of_pos m (b := 3) (by decide)
  generalize m % 3 = z at e1 e2
  have : z = 0 ∨ z = 1 ∨ z = 2 := by omega
  rcases this with rfl | rfl | rfl
  · show (1 : Int) ≤ 1 ∧ (1 : Int) ≤ 100; omega
  · show (1 : Int) ≤ 100 ∧ (100 : Int) ≤ 100; omega
  · exact hx
theorem colC_bd (ns : List Int) (k j : Nat) : 1 ≤ colC ns k j ∧ colC ns k j ≤ 100 := three_bd (y := 0) (by
  have := Int.emod_nonneg (cD ns k (9 + (j : Int))) (b := 100) (by decide)
  have := Int.emod_lt_of_pos (cD ns k (9 + (j : Int))) (b := 100) (by decide)
  omega)
theorem linC_bd (ns : List Int) (k j : Nat) : 1 ≤ linC ns k j ∧ linC ns k j ≤ 100 := three_bd (y := 0) (by
  have := Int.emod_nonneg (cD ns k (9 + (j : Int)) / 7) (b := 100) (by decide)
  have := Int.emod_lt_of_pos (cD ns k (9 + (j : Int)) / 7) (b := 100) (by decide)
  omega)
theorem plsC_succ (ns : List Int) (k i : Nat) : plsC ns k (i + 1) = plsC ns k i ++ [plC ns k i] := by unfold plsC; rw [List.range_succ, List.map_append]; rfl
theorem rwsK_succ (ns : List Int) (k : Nat) : rwsK ns (k + 1) = rwsK ns k ++ [rwK ns k] := by unfold rwsK; rw [List.range_succ, List.map_append]; rfl
theorem rwsK_len (ns : List Int) (k : Nat) : (rwsK ns k).length = k := by unfold rwsK; rw [List.length_map, List.length_range]
/-! names that differ -/
theorem nmI_all : ∀ a b : Fin 64, nmI (a.val : Int) = nmI (b.val : Int) → a = b := by decide +kernel
theorem nmI_inj {i j : Nat} (hi : i < 64) (hj : j < 64) (h : nmI (i : Int) = nmI (j : Int)) : i = j := congrArg Fin.val (nmI_all ⟨i, hi⟩ ⟨j, hj⟩ h)
theorem rwsK_get {ns : List Int} {k i : Nat} (h : i < k) : (rwsK ns k)[i]? = some (rwK ns i) := by
  unfold rwsK; rw [List.getElem?_map, List.getElem?_range h]; rfl
theorem nms_rwsK (ns : List Int) (k : Nat) : nmsL (libL (rwsK ns k)) = (List.range k).map fun (i : Nat) => nmI (i : Int) := by
  rw [libL_nms]; unfold rwsK; rw [List.map_map]; rfl
theorem nmI_mem {ns : List Int} {k i : Nat} (hk : k ≤ 60) (hi : i < 64) : nmI (i : Int) ∈ nmsL (libL (rwsK ns k)) ↔ i < k := by
  rw [nms_rwsK, List.mem_map]
  exact ⟨fun ⟨j, h1, h2⟩ => by rw [← nmI_inj (by have := List.mem_range.mp h1; omega) hi h2]; exact List.mem_range.mp h1, fun h => ⟨i, List.mem_range.mpr h, rfl⟩⟩
theorem nms_nodup (ns : List Int) {k : Nat} (hk : k ≤ 60) : (nmsL (libL (rwsK ns k))).Nodup := by
  rw [nms_rwsK]
  exact List.pairwise_map.mpr (List.Pairwise.imp_of_mem (fun {a b} ha hb (h : a ≠ b) e => h (nmI_inj (by have := List.mem_range.mp ha; omega) (by have := List.mem_range.mp hb; omega) e)) List.nodup_range)
theorem plsC_at {ns : List Int} {k i : Nat} {p : Pla} (h : p ∈ plsC ns k i) : ∃ j, j < i ∧ p = plC ns k j := by
  unfold plsC at h
  obtain ⟨j, h1, h2⟩ := List.mem_map.mp h
  exact ⟨j, List.mem_range.mp h1, h2.symm⟩
theorem atC_nat (ns : List Int) {k : Nat} (j : Nat) (h : 0 < k) : ∃ i : Nat, atC ns k j = (i : Int) ∧ i < k := by
  have := atC_bd ns j h
  exact ⟨(atC ns k j).toNat, by omega, by omega⟩
theorem canK (ns : List Int) {k : Nat} (hk : k ≤ 60) : CanL (libL (rwsK ns k)) (rwK ns k) := by
  have hp := pnC_le ns k
  refine ⟨fun h => ?_, fun p h => ?_, ⟨?_, ?_, ?_⟩, fun p h => ?_⟩
  · have := (nmI_mem hk (by omega)).mp h; omega
  · obtain ⟨j, hj, rfl⟩ := plsC_at h
    obtain ⟨i, e, hi⟩ := atC_nat ns j (show 0 < k by omega)
    show nmI (atC ns k j) ∈ _
    rw [e]
    exact (nmI_mem hk (by omega)).mpr hi
  · show (shC _).length ≤ 1000
    have := Int.emod_lt_of_pos (cD ns k 0) (b := 3) (by decide)
    simp only [shC, List.length_map, List.length_range]; omega
  · show (laC _).length ≤ 1000
    have := Int.emod_lt_of_pos (cD ns k 1) (b := 3) (by decide)
    simp only [laC, List.length_map, List.length_range]; omega
  · show (plsC _ _ _).length ≤ 1000
    simp only [plsC, List.length_map, List.length_range]; omega
  · obtain ⟨j, hj, rfl⟩ := plsC_at h
    exact ⟨colC_bd ns k j, linC_bd ns k j⟩
theorem rwsK_take {ns : List Int} {n k : Nat} (h : k ≤ n) : (rwsK ns n).take k = rwsK ns k := by
  unfold rwsK
  rw [← List.map_take, List.take_range, Nat.min_eq_left h]
theorem libK_ok (ns : List Int) {n : Nat} (hn : n ≤ 60) : LibOk (rwsK ns n) := fun k c h => by
  have hk : k < n := by have := (List.getElem?_eq_some_iff.mp h).1; rwa [rwsK_len] at this
  rw [rwsK_get hk] at h
  cases h
  rw [rwsK_take (Nat.le_of_lt hk)]
  exact canK ns (by omega)
/-- what is counted at a name -/
theorem cnt_at {R : List LRow} {i : Nat} {x : LRow} {f : LRow → Int} (nd : (nmsL R).Nodup) (h : R[i]? = some x) : cnt f R x.r.n = f x := by
  have hm : x.r.n ∈ nmsL R := List.mem_map.mpr ⟨x, List.mem_of_getElem? h, rfl⟩
  obtain ⟨y, hy, e, hf⟩ := find_mem hm
  obtain ⟨j, hj⟩ := List.getElem?_of_mem hy
  have h1 : (nmsL R)[i]? = some x.r.n := by unfold nmsL; rw [List.getElem?_map, h]; rfl
  have h2 : (nmsL R)[j]? = some x.r.n := by unfold nmsL; rw [List.getElem?_map, hj, ← e]; rfl
  have : i = j := (List.getElem?_inj (List.getElem?_eq_some_iff.mp h1).1 nd).mp (h1.trans h2.symm)
  subst this
  rw [h] at hj; cases hj
  unfold cnt; rw [hf]; rfl
abbrev tOf (x : LRow) : T3 := (x.sc, x.lc, x.dp)
theorem cnt_K {ns : List Int} {k : Nat} {f : LRow → Int} {g : T3 → Int} (hk : k ≤ 60) (hg : ∀ x, f x = g (tOf x)) (ih : (libL (rwsK ns k)).map tOf = rL ns k) {i : Nat} (hi : i < k) : cnt f (libL (rwsK ns k)) (nmI (i : Int)) = g ((rL ns k).getD i (0, 0, 0)) := by
  have hl : i < (libL (rwsK ns k)).length := by rw [libL_len, rwsK_len]; exact hi
  have hx := List.getElem?_eq_getElem hl
  have e : ((libL (rwsK ns k))[i]).r = rwK ns i := by
    have h1 := congrArg (·[i]?) (libL_rw (rwsK ns k))
    simp only [List.getElem?_map, hx, Option.map_some] at h1
    rw [rwsK_get hi] at h1
    exact Option.some.inj h1
  have h2 := cnt_at (f := f) (nms_nodup ns hk) hx
  rw [e] at h2
  show cnt f _ (rwK ns i).n = _
  rw [h2, hg, ← ih, List.getD_eq_getElem?_getD, List.getElem?_map, hx]; rfl
theorem acc_sum (ns : List Int) (k : Nat) (R : List T3) : ∀ j, (acc3 ns k R j).1 = cD ns k 0 % 3 + ((List.range j).map fun i => colC ns k i * linC ns k i * (R.getD (atC ns k i).toNat (0, 0, 0)).1).sum ∧ (acc3 ns k R j).2.1 = cD ns k 1 % 3 + ((List.range j).map fun i => colC ns k i * linC ns k i * (R.getD (atC ns k i).toNat (0, 0, 0)).2.1).sum ∧ (acc3 ns k R j).2.2 = ((List.range j).map fun i => (R.getD (atC ns k i).toNat (0, 0, 0)).2.2 + 1).foldl max 0
  | 0 => by simp [acc3]
  | j + 1 => by
    obtain ⟨h1, h2, h3⟩ := acc_sum ns k R j
    simp only [acc3, List.range_succ, List.map_append, List.map_cons, List.map_nil, List.sum_append, List.sum_cons, List.sum_nil, List.foldl_append, List.foldl_cons, List.foldl_nil]
    rw [h1, h2, h3]
    refine ⟨by omega, by omega, rfl⟩
theorem rL_nn (ns : List Int) : ∀ k, ∀ t ∈ rL ns k, 0 ≤ t.2.2
  | 0, t, h => by simp [rL] at h
  | k + 1, t, h => by
    rw [rL, List.mem_append] at h
    rcases h with h | h
    · exact rL_nn ns k t h
    · rw [List.mem_singleton] at h
      subst h
      rw [(acc_sum ns k (rL ns k) (pnC ns k)).2.2]
      generalize (List.range (pnC ns k)).map _ = l
      have : ∀ (l : List Int) (a : Int), 0 ≤ a → 0 ≤ l.foldl max a := fun l => by
        induction l with
        | nil => exact fun a h => h
        | cons x xs ih => exact fun a h => ih _ (by omega)
      exact this l 0 (by omega)
theorem maxI_0 : ∀ l : List Int, (∀ x ∈ l, 0 ≤ x) → maxI 0 l = l.foldl max 0
  | [], _ => rfl
  | x :: xs, h => by
    show xs.foldl max x = xs.foldl max (max 0 x)
    rw [show max 0 x = x by have := h x List.mem_cons_self; omega]
/-- the library counts what the law counts -/
theorem libK (ns : List Int) : ∀ k, k ≤ 60 → (libL (rwsK ns k)).map tOf = rL ns k
  | 0, _ => rfl
  | k + 1, hk => by
    have hk' : k ≤ 60 := by omega
    have ih := libK ns k hk'
    rw [rwsK_succ, libL_snoc, rL]
    unfold stepL
    rw [List.map_append, ih]
    congr 1
    have hp := pnC_le ns k
    have e0 := Int.emod_nonneg (cD ns k 0) (b := 3) (by decide)
    have e1 := Int.emod_nonneg (cD ns k 1) (b := 3) (by decide)
    obtain ⟨a1, a2, a3⟩ := acc_sum ns k (rL ns k) (pnC ns k)
    have sum : ∀ (f : LRow → Int) (g : T3 → Int), (∀ x, f x = g (tOf x)) → ((plsC ns k (pnC ns k)).map fun p => p.c * p.r * cnt f (libL (rwsK ns k)) p.n) = (List.range (pnC ns k)).map fun i => colC ns k i * linC ns k i * g ((rL ns k).getD (atC ns k i).toNat (0, 0, 0)) := fun f g hg => by
      unfold plsC
      rw [List.map_map]
      refine List.map_congr_left fun j hj => ?_
      have hj' := List.mem_range.mp hj
      obtain ⟨i, e, hi⟩ := atC_nat ns j (show 0 < k by omega)
      show colC ns k j * linC ns k j * cnt f _ (nmI (atC ns k j)) = _
      rw [e, cnt_K hk' hg ih hi, Int.toNat_natCast]
    have hd : ((plsC ns k (pnC ns k)).map fun p => cnt LRow.dp (libL (rwsK ns k)) p.n + 1) = (List.range (pnC ns k)).map fun i => ((rL ns k).getD (atC ns k i).toNat (0, 0, 0)).2.2 + 1 := by
      unfold plsC
      rw [List.map_map]
      refine List.map_congr_left fun j hj => ?_
      have hj' := List.mem_range.mp hj
      obtain ⟨i, e, hi⟩ := atC_nat ns j (show 0 < k by omega)
      show cnt LRow.dp _ (nmI (atC ns k j)) + 1 = _
      rw [e, cnt_K (g := fun t => t.2.2) hk' (fun _ => rfl) ih hi, Int.toNat_natCast]
    have nn : ∀ x ∈ (List.range (pnC ns k)).map (fun i => ((rL ns k).getD (atC ns k i).toNat (0, 0, 0)).2.2 + 1), 0 ≤ x := fun x hx => by
      obtain ⟨i, _, rfl⟩ := List.mem_map.mp hx
      show 0 ≤ ((rL ns k).getD (atC ns k i).toNat (0, 0, 0)).2.2 + 1
      rw [List.getD_eq_getElem?_getD]
      cases h : (rL ns k)[(atC ns k i).toNat]? with
      | none => decide
      | some t => have := rL_nn ns k t (List.mem_of_getElem? h); show 0 ≤ t.2.2 + 1; omega
    show [((((shC (cD ns k 0 % 3).toNat).length : Nat) : Int) + ((plsC ns k (pnC ns k)).map fun p => p.c * p.r * cnt LRow.sc (libL (rwsK ns k)) p.n).sum, (((laC (cD ns k 1 % 3).toNat).length : Nat) : Int) + ((plsC ns k (pnC ns k)).map fun p => p.c * p.r * cnt LRow.lc (libL (rwsK ns k)) p.n).sum, maxI 0 ((plsC ns k (pnC ns k)).map fun p => cnt LRow.dp (libL (rwsK ns k)) p.n + 1))] = [acc3 ns k (rL ns k) (pnC ns k)]
    rw [sum LRow.sc (fun t => t.1) (fun _ => rfl), sum LRow.lc (fun t => t.2.1) (fun _ => rfl), hd, maxI_0 _ nn]
    have l0 : (((shC (cD ns k 0 % 3).toNat).length : Nat) : Int) = cD ns k 0 % 3 := by simp only [shC, List.length_map, List.length_range]; omega
    have l1 : (((laC (cD ns k 1 % 3).toNat).length : Nat) : Int) = cD ns k 1 % 3 := by simp only [laC, List.length_map, List.length_range]; omega
    rw [l0, l1, ← a1, ← a2, ← a3]
theorem nmI_ok : ∀ a : Fin 64, nameB (nmI (a.val : Int)) = true := by decide +kernel
theorem nmI_len {n : Nat} (h : n < 64) : ("c" : Str).length + (Str.ofString (toString (n : Int))).length ≤ sizeLine := by
  have := (dig_ok h).1
  have e : ("c" : Str).length = 1 := by decide +kernel
  rw [sizeLine_eq, e]; omega
theorem rwK_ok (ns : List Int) {k : Nat} (hk : k ≤ 60) : CelOk (rwK ns k).n (rwK ns k).S (rwK ns k).L (rwK ns k).P := by
  have hp := pnC_le ns k
  refine ⟨nmI_ok ⟨k, by omega⟩, fun x h => ?_, fun x h => ?_, fun x h => ?_⟩
  · have h' : x ∈ shC (cD ns k 0 % 3).toNat := h
    unfold shC at h'
    obtain ⟨j, _, rfl⟩ := List.mem_map.mp h'
    show (decide (("metal" : Str) ∈ layN) && (decide ((0 : Int) < 1) && decide ((0 : Int) < 1 + (j : Int)))) = true
    rw [decide_eq_true (show ("metal" : Str) ∈ layN by decide +kernel), decide_eq_true (show (0 : Int) < 1 + (j : Int) by omega)]; rfl
  · have h' : x ∈ laC (cD ns k 1 % 3).toNat := h
    unfold laC at h'
    obtain ⟨j, _, rfl⟩ := List.mem_map.mp h'
    show (nameB "a" && decide (("poly" : Str) ∈ labN)) = true
    decide +kernel
  · obtain ⟨j, hj, rfl⟩ := plsC_at h
    obtain ⟨i, e, hi⟩ := atC_nat ns j (show 0 < k by omega)
    have h1 := colC_bd ns k j
    have h2 := linC_bd ns k j
    show (nameB (nmI (atC ns k j)) && ((decide (0 ≤ (j : Int)) && decide ((j : Int) < 8)) && ((decide (1 ≤ colC ns k j) && decide (colC ns k j ≤ 100)) && (decide (1 ≤ linC ns k j) && decide (linC ns k j ≤ 100))))) = true
    rw [e, nmI_ok ⟨i, by omega⟩, decide_eq_true (show 0 ≤ (j : Int) by omega), decide_eq_true (show (j : Int) < 8 by omega), decide_eq_true h1.1, decide_eq_true h1.2, decide_eq_true h2.1, decide_eq_true h2.2]; rfl
theorem rL_at {ns : List Int} {k : Nat} {i : Int} (h : 0 ≤ i ∧ i < k) : atI ((rL ns k).map t3D) i = some (t3D ((rL ns k).getD i.toNat (0, 0, 0))) := at_getC ⟨h.1, by rw [rL_len]; exact h.2⟩
theorem rL_take {ns : List Int} {k : Nat} : rL ns (k + 1) = rL ns k ++ [acc3 ns k (rL ns k) (pnC ns k)] := rfl
end DL

/-! tuple of a dict; f-strings, join; properties. -/
namespace DL
open PySem PySem.Spec PyProof.Rows L2
section
variable {X : Cx} {ρ : En} {pos : Pos}
theorem key_back {P : Program} {w : World} {k : Key} {u : Value} (h : (mixKind P w).is k u = true) : RelV (kV k) u := by
  rcases keyIs_shape h with ⟨i, t, rfl, rfl⟩ | ⟨x, t, rfl, rfl⟩
  · exact ⟨t, rfl⟩
  · exact ⟨t, rfl⟩
open PySem.AutoSeq1 (wpAny_loadPart')
theorem meets_tupDk {prog : Program} {w : World} {d : Addr} {kvs : List (Key × Value)} (lo : (d == sysModules) = false) (hn : kvs.length ≤ sizeLine) :
    MeetsIn prog w (Builtin.«tuple.__new__» ⟨[.type "tuple", .ref d], []⟩) (fun A R s => A.handled = none ∧ s.heap.DictOf (mixKind prog w) d kvs ∧ ∀ (h' : Heap) (tk : Nat) (acc : Array Value), (∀ b o, s.heap.get? b = some o → h'.get? b = some o) →
      ItemsOf (fun i v => ∃ k x, kvs[i]? = some (k, x) ∧ (mixKind prog w).is k v = true) acc kvs.length → R (.ok (.ret (.ref h'.objs.size))) { s with heap := h'.push { cls := .type "tuple", data := .seq acc }, toks := tk }) := by
  intro A R s ⟨hh, hd, hR⟩
  obtain ⟨o, es, ep, ho, hex, hdat, q⟩ := id hd
  obtain ⟨hp, g, dr, tk, os⟩ := s
  have a1 := sub_tuple_self
  have a2 := init_tuple_lookup
  have a3 := madeHere_tuple
  have ty : Shared.TypeIs ⟨hp, g, dr, tk, os⟩ (.ref d) "dict" := ⟨o, ho, hex.1⟩
  unfold Builtin.«tuple.__new__»
  generalize hC : collect = CT
  wp_walk using wpAny_loadPart' ho, wpAny_typeOf ty
  subst hC
  have at0 : Heap.DictAt (mixKind prog w) hp d kvs ep := ⟨o, es, ho, hex, hdat, q⟩
  refine PySem.W.kdu_collect (PySem.W.kdl_dict lo) (by simpa using hh) at0 hn fun h' tk' acc hk hacc => ?_
  have hz : acc.size ≤ sizeLine := by rw [hacc.1]; exact hn
  repeat (any_goals (first | assumption | wp_step))
  rw [show acc.toList.toArray = acc by simp]
  exact hR h' tk' acc hk hacc
/-- what stands in the values that are the keys -/
theorem keys_vals {P : Program} {w : World} {kvs : List (Key × V)} {vs : List (Key × Value)} {acc : Array Value} (r : KV kvs vs) (h : ItemsOf (fun i v => ∃ k x, vs[i]? = some (k, x) ∧ (mixKind P w).is k v = true) acc vs.length) : Vals (kvs.map fun kv => kV kv.1) acc.toList := by
  have e : kvs.map (fun kv => kV kv.1) = (vs.map (·.1)).map kV := by rw [← r.keys, List.map_map]; rfl
  rw [e]
  refine vals_of_at (by have := h.1; simp only [List.length_map, Array.length_toList]; omega) fun i a b h1 h2 => ?_
  rw [Array.getElem?_toList] at h2
  obtain ⟨k, x, h3, h4⟩ := h.2 i b h2
  rw [List.getElem?_map, List.getElem?_map, h3] at h1
  cases h1
  exact key_back h4
theorem call_tupDk (hc : X.calm = true) : CallR X (.type "tuple") (fun vs H Q => ∃ a kvs, vs = [V.ref a] ∧ Rd H a (.dK kvs) ∧ ∀ p, H p = none → Q (.ref p) (upd H p (.tup (kvs.map fun kv => kV kv.1)))) := by
  intro pins s σ H vs us Q I r h
  obtain ⟨a, kvs, rfl, hd, q⟩ := h
  rw [Vals.ref1 r]
  obtain ⟨z, lo, xs, rel, dd⟩ := dk_rd I.hok hd
  have hl : xs.length ≤ sizeLine := by rw [← rel.length]; exact z
  refine callType_newIn F.called_tuple (by decide) (F.typeCall_tuple_1 _) (F.newCall_tuple_1 _) (fun obj => F.args_object_init_2 obj _) F.entry_tuple_new (meets_tupDk lo hl) ⟨by simp [I.ok.hd hc], dd, fun h' tk acc hk hacc => ⟨⟨_, Heap.get?_push_size _ rfl, rfl⟩, ?_⟩⟩
  have I2 : Inv X pins σ H { s with heap := h', toks := tk } := I.un (Un.kept hk) (I.hok.kept hk)
  have hv := keys_vals (P := X.prog) (w := X.w) rel hacc
  have hz : (kvs.map fun kv => kV kv.1).length ≤ sizeLine := by rw [List.length_map]; exact z
  refine ⟨.ref h'.objs.size, _, I2.laid (t' := tk) (a := h'.objs.size) (o := .tup (kvs.map fun kv => kV kv.1)) (h' := h'.push { cls := .type "tuple", data := .seq acc }) (fun b u e => Heap.get?_push_of_some _ e) (Nat.le_refl _) ?_, rfl, q _ (I2.hok.fresh (Nat.le_refl _))⟩
  exact ⟨hz, acc.toList, hv, _, Heap.get?_push_size _ rfl, rfl, 0, by simp⟩
theorem bc_tupDk {ks : List Key} {ds : List D} (hc : X.calm = true) : BC X (.type "tuple") [.dk ks ds] (.tup (ks.map kD)) := ⟨_, call_tupDk hc, fun H0 H vs Q s r k => by
  obtain ⟨x, rfl, h⟩ := r.one'
  obtain ⟨a, ws, rfl, h1, h2, h3⟩ := h
  refine ⟨a, _, rfl, Same.rd s h1, fun p hp => ?_⟩
  have e : (ks.zip ws).map (fun kv => kV kv.1) = ks.map kV := by
    rw [show (fun kv : Key × V => kV kv.1) = kV ∘ Prod.fst from rfl, ← List.map_map, List.map_fst_zip (Nat.le_of_eq h2)]
  rw [e]
  exact k _ _ _ (JH.new s hp) ⟨p, _, rfl, SqT.of upd_same, keys_dr ks⟩⟩
/-! ### texts put together -/
def catS (zs : List Str) : Str := zs.foldl (· ++ ·) Str.empty
def sumL (zs : List Str) : Nat := (zs.map (·.length)).sum
/-- the parts of an f-string -/
def FSd (X : Cx) (ρ : En) (es : List Expr) (zs : List Str) : Prop := ∀ B0 B σ H0 H (acc : Str) (Q : Str → Hp → Prop), J X.K B0 B σ H0 H ρ → acc.length + sumL zs ≤ sizeLine → (∀ H0' H', JH H0 H H0' H' → Q (zs.foldl (· ++ ·) acc) H') → tJs (es.map (RE X)) acc σ H Q
theorem pj_star : ∀ es : List Expr, PJ X es (es.map (RE X))
  | [] => .nil
  | _ :: es => .cons pe_star (pj_star es)
theorem app_len (a b : Str) : (a ++ b).length = a.length + b.length := Array.size_append
variable {e o : Expr} {es : List Expr} {zs : List Str} {z : Str}
theorem fs_nil : FSd X ρ [] [] := fun B0 B σ H0 H acc Q j hl k => k H0 H (JH.refl j.same)
theorem fm_s {p : Pos} (h : ED X ρ e (.str z)) (hl : z.length ≤ sizeLine) : ED X ρ (.FormattedValue e (-1) none p) (.str z) := fun B0 B σ H0 H Q j k => RE.of (pe_fmt pe_star) (h B0 B σ H0 H _ j fun v G0 G g r => by
  cases (show v = .str z from r)
  exact .inl ⟨z, rfl, hl, k _ G0 G g rfl⟩)
theorem fm_i {p : Pos} {i : Int} (h : ED X ρ e (.int i)) (hl : i.natAbs.log2 < 1920) : ED X ρ (.FormattedValue e (-1) none p) (.str (Str.ofString (toString i))) := fun B0 B σ H0 H Q j k => RE.of (pe_fmt pe_star) (h B0 B σ H0 H _ j fun v G0 G g r => by
  cases (show v = .int i from r)
  exact .inr ⟨i, rfl, hl, k _ G0 G g rfl⟩)
theorem sumL_cons (z : Str) (zs : List Str) : sumL (z :: zs) = z.length + sumL zs := by simp [sumL]
theorem fs_cons (h : ED X ρ e (.str z)) (r : FSd X ρ es zs) : FSd X ρ (e :: es) (z :: zs) := fun B0 B σ H0 H acc Q j hl k => by
  rw [sumL_cons] at hl
  refine h B0 B σ H0 H _ j fun v G0 G g rv => ?_
  cases (show v = .str z from rv)
  refine ⟨z, rfl, by rw [app_len]; omega, ?_⟩
  exact r B0 B σ G0 G (acc ++ z) Q (j.grow g) (by rw [app_len]; omega) fun L0 L g2 => k L0 L (g.trans g2)
theorem ed_fs {e2 : Expr} (h : FSd X ρ (e :: e2 :: es) zs) (hl : sumL zs ≤ sizeLine) : ED X ρ (.JoinedStr (e :: e2 :: es) pos) (.str (catS zs)) := fun B0 B σ H0 H Q j k =>
  RE.of (pe_joined (pj_star _)) (h B0 B σ H0 H Str.empty (fun out H1 => Q (.str out) H1) j (by show 0 + _ ≤ _; omega) fun G0 G g => k _ G0 G g rfl)
/-- o.join(e) -/
theorem ed_join {a : Str} {ds : D} {apos : Pos} (ho : ED X ρ o (.str a)) (hs : SeqD ds (zs.map .str)) (he : ED X ρ e ds) (hl : sumL zs + zs.length * a.length ≤ 16777216) (h1 : starEach [e] X.env = [(false, eval e X.env)] := by rfl) (hbase : attributeBase o "join" X.env (eval o X.env) = eval o X.env := by rfl) (hline : (apos.endLine == pos.line) = true := by rfl) :
    ED X ρ (.Call (.Attribute o "join" apos) [e] [] pos) (.str (Str.join a zs)) := fun B0 B σ H0 H Q j k => by
  refine RE.of (pe_join pe_star pe_star h1 hbase hline) (ho B0 B σ H0 H _ j fun v G0 G g r => ?_)
  cases (show v = .str a from r)
  refine ⟨⟨a, rfl⟩, he B0 B σ G0 G _ (j.grow g) fun y L0 L g2 r2 => ?_⟩
  have fin : Q (.str (Txt.join a zs)) L := by
    rw [TL.join_eq]
    exact k _ L0 L (g.trans g2) rfl
  cases hs with
  | lst =>
    obtain ⟨p, vs, rfl, h2, h3⟩ := r2
    rw [DRs.strs h3] at h2
    exact ⟨a, p, zs, rfl, rfl, .inl (g2.sh.seq h2), hl, fin⟩
  | tup =>
    obtain ⟨p, vs, rfl, h2, h3⟩ := r2
    rw [DRs.strs h3] at h2
    exact ⟨a, p, zs, rfl, rfl, .inr (Same.seqT g2.sh h2), hl, fin⟩
end
/-! ### properties -/
/-- what the top says of a property of a class: its def at hand -/
structure FnP (P : Program) (w : World) (K : PySem.W.Frag) (mg : Str → Option Value) (base : Heap) (cn m : Str) (k : Nat) (R : List D → D → Prop) : Prop where
  ex : ∃ C p f fd ps, PySem.W.nsIn K mainGlobals cn = some (some (.ref C)) ∧ Cls K C ∧ PropOf K C m p f ∧ FnOk P w K mg base CX0 k f fd ps (spR K R) ∧ Binds K fd ps []
theorem ed_prop {X : Cx} {ρ : En} {o : Expr} {pos : Pos} {cn m : Str} {k : Nat} {R : List D → D → Prop} {fds : List D} {ns : List Str} {d : D} (G : FnP X.prog X.w X.K X.mg X.base cn m k R) (hr : Room (k + 1) X.A) (ho : ED X ρ o (.obj cn ns fds)) (hR : R [.obj cn ns fds] d)
    (hab : attributeBase o m X.env (eval o X.env) = eval o X.env := by rfl) : ED X ρ (.Attribute o m pos) d := fun B0 B σ H0 H Q j kk => by
  obtain ⟨C, p, f, fd, ps, hC, hc, hp, F, hb⟩ := G.ex
  refine RE.of (pe_prop (E := E0) pe_star hc hp F hr hb .nil pass0 hab) (ho B0 B σ H0 H _ j fun v G0 G g r => ?_)
  obtain ⟨a, C', dx, vs, rfl, hC', hA, hlen, hvs⟩ := id r
  rw [hC] at hC'; cases hC'
  exact ⟨a, dx, _, rfl, g.sh _ _ hA, G0, [.obj cn ns fds], d, g.sh, ⟨_, _, rfl, r, rfl⟩, hR, fun v L0 L g2 r2 => kk v L0 L (g.trans g2) r2⟩
end DL

/-! Libraries as texts. -/
namespace DL
open PySem PySem.Spec PyProof.Rows L2
/-! ### lengths of numbers as texts -/
abbrev stI (i : Int) : Str := Str.ofString (toString i)
theorem str_ext {a b : Str} (h : a.cps.toList = b.cps.toList) : a = b := by
  obtain ⟨⟨x⟩⟩ := a; obtain ⟨⟨y⟩⟩ := b
  simp at h; rw [h]
theorem app_assoc (a b c : Str) : a ++ b ++ c = a ++ (b ++ c) := str_ext (by simp only [cps_app, List.append_assoc])
theorem emp_app (a : Str) : Str.empty ++ a = a := str_ext (by rw [cps_app]; rfl)
theorem ofString_app (a b : String) : Str.ofString (a ++ b) = Str.ofString a ++ Str.ofString b := by
  refine str_ext ?_
  rw [cps_app]
  simp only [Str.ofString_eq_toList, String.toList_append, List.map_append]
theorem stI_neg {n : Nat} (h : 0 < n) : stI (-(n : Int)) = ("-" : Str) ++ stI (n : Int) := by
  obtain ⟨m, rfl⟩ := Nat.exists_eq_succ_of_ne_zero (by omega : n ≠ 0)
  show Str.ofString (toString (Int.negSucc m)) = _
  have e : toString (Int.negSucc m) = "-" ++ toString ((m + 1 : Nat) : Int) := rfl
  rw [e, ofString_app]
theorem stI_len {i : Int} {k : Nat} (hk : 0 < k) (h : i.natAbs < 10 ^ k) : (stI i).length ≤ k + 1 := by
  have e : ∀ n : Nat, n < 10 ^ k → (stI (n : Int)).length ≤ k := fun n hn => by
    rw [TL.len_tl, TL.tl_num]
    exact TL.numL_len hk hn
  rcases Int.lt_or_le i 0 with hi | hi
  · have : i = -((i.natAbs : Nat) : Int) := by omega
    rw [this, stI_neg (by omega), app_len]
    have := e i.natAbs h
    have h1 : ("-" : Str).length = 1 := by decide +kernel
    omega
  · have : i = ((i.natAbs : Nat) : Int) := by omega
    rw [this]
    have := e i.natAbs h
    omega
structure Sm (i : Int) : Prop where
  b : i.natAbs < 10 ^ 40
theorem Sm.len {i : Int} (h : Sm i) : (stI i).length ≤ 41 := stI_len (by decide) h.b
theorem Sm.log {i : Int} (h : Sm i) : i.natAbs.log2 < 1920 := by
  have h1 := h.b
  by_cases h0 : i.natAbs = 0
  · rw [h0]; decide
  · have := (Nat.log2_lt h0 (k := 200)).mpr (Nat.lt_of_lt_of_le h1 (by decide +kernel))
    omega
theorem sumL_nil : sumL [] = 0 := rfl
/-! ### lines -/
theorem join_len (a : Str) : ∀ ws : List Str, (Str.join a ws).length ≤ sumL ws + ws.length * a.length
  | [] => by show 0 ≤ _; omega
  | [x] => by show x.length ≤ _; simp [sumL]
  | x :: y :: r => by
    show (x ++ a ++ Str.join a (y :: r)).length ≤ _
    have ih := join_len a (y :: r)
    rw [app_len, app_len, sumL_cons, List.length_cons, Nat.succ_mul]
    omega
def lnS (s : Shp) : Str := Str.join " " ["shape", s.1, stI s.2.a, stI s.2.b, stI s.2.c, stI s.2.d]
def lnL (v : Lab) : Str := Str.join " " ["label", v.n, v.l, stI v.x, stI v.y]
def lnP (v : Pla) : Str := Str.join " " ["place", v.n, stI v.t, stI v.dx, stI v.dy, stI v.c, stI v.r, stI v.sx, stI v.sy]
theorem e_shape : ("shape " : Str) = ("shape" : Str) ++ (" " : Str) := by decide +kernel
theorem e_label : ("label " : Str) = ("label" : Str) ++ (" " : Str) := by decide +kernel
theorem e_place : ("place " : Str) = ("place" : Str) ++ (" " : Str) := by decide +kernel
theorem cat_S (s : Shp) : catS ["shape ", s.1, " ", stI s.2.a, " ", stI s.2.b, " ", stI s.2.c, " ", stI s.2.d] = lnS s := by
  rw [e_shape]; unfold catS lnS
  simp only [List.foldl_cons, List.foldl_nil, Str.join, emp_app, app_assoc]
theorem cat_L (v : Lab) : catS ["label ", v.n, " ", v.l, " ", stI v.x, " ", stI v.y] = lnL v := by
  rw [e_label]; unfold catS lnL
  simp only [List.foldl_cons, List.foldl_nil, Str.join, emp_app, app_assoc]
theorem cat_P (v : Pla) : catS ["place ", v.n, " ", stI v.t, " ", stI v.dx, " ", stI v.dy, " ", stI v.c, " ", stI v.r, " ", stI v.sx, " ", stI v.sy] = lnP v := by
  rw [e_place]; unfold catS lnP
  simp only [List.foldl_cons, List.foldl_nil, Str.join, emp_app, app_assoc]
theorem cat_2 (a b : Str) : catS [a, b] = a ++ b := by
  unfold catS; simp only [List.foldl_cons, List.foldl_nil, emp_app]
/-- what may be written -/
structure SmR (r : Rw) : Prop where
  n : r.n.length ≤ 12
  s : ∀ s ∈ r.S, s.1.length ≤ 12 ∧ Sm s.2.a ∧ Sm s.2.b ∧ Sm s.2.c ∧ Sm s.2.d
  l : ∀ v ∈ r.L, v.n.length ≤ 12 ∧ v.l.length ≤ 12 ∧ Sm v.x ∧ Sm v.y
  p : ∀ v ∈ r.P, v.n.length ≤ 12 ∧ (Sm v.t ∧ Sm v.dx ∧ Sm v.dy) ∧ (Sm v.c ∧ Sm v.r) ∧ Sm v.sx ∧ Sm v.sy
  few : r.S.length ≤ 100 ∧ r.L.length ≤ 100 ∧ r.P.length ≤ 100
def lnC (r : Rw) : List Str := [("cell " : Str) ++ r.n] ++ r.S.map lnS ++ r.L.map lnL ++ r.P.map lnP
theorem lens : ("shape" : Str).length = 5 ∧ ("label" : Str).length = 5 ∧ ("place" : Str).length = 5 ∧ (" " : Str).length = 1 ∧ ("cell " : Str).length = 5 ∧ ("\n" : Str).length = 1 := by decide +kernel
theorem lnS_len {s : Shp} (h : s.1.length ≤ 12 ∧ Sm s.2.a ∧ Sm s.2.b ∧ Sm s.2.c ∧ Sm s.2.d) : (lnS s).length ≤ 1000 := by
  have h0 := join_len " " ["shape", s.1, stI s.2.a, stI s.2.b, stI s.2.c, stI s.2.d]
  have := lens; have h1 := h.2.1.len; have h2 := h.2.2.1.len; have h3 := h.2.2.2.1.len; have h4 := h.2.2.2.2.len
  unfold lnS
  simp only [sumL_cons, sumL_nil, List.length_cons, List.length_nil] at h0
  omega
theorem lnL_len {v : Lab} (h : v.n.length ≤ 12 ∧ v.l.length ≤ 12 ∧ Sm v.x ∧ Sm v.y) : (lnL v).length ≤ 1000 := by
  have h0 := join_len " " ["label", v.n, v.l, stI v.x, stI v.y]
  have := lens; have h1 := h.2.2.1.len; have h2 := h.2.2.2.len
  unfold lnL
  simp only [sumL_cons, sumL_nil, List.length_cons, List.length_nil] at h0
  omega
theorem lnP_len {v : Pla} (h : v.n.length ≤ 12 ∧ (Sm v.t ∧ Sm v.dx ∧ Sm v.dy) ∧ (Sm v.c ∧ Sm v.r) ∧ Sm v.sx ∧ Sm v.sy) : (lnP v).length ≤ 1000 := by
  have h0 := join_len " " ["place", v.n, stI v.t, stI v.dx, stI v.dy, stI v.c, stI v.r, stI v.sx, stI v.sy]
  obtain ⟨a, ⟨b, c, d⟩, ⟨e, f⟩, g, k⟩ := h
  have := lens; have h1 := b.len; have h2 := c.len; have h3 := d.len; have h4 := e.len; have h5 := f.len; have h6 := g.len; have h7 := k.len
  unfold lnP
  simp only [sumL_cons, sumL_nil, List.length_cons, List.length_nil] at h0
  omega
theorem lnC_len {r : Rw} (h : SmR r) : (lnC r).length ≤ 301 ∧ ∀ z ∈ lnC r, z.length ≤ 1000 := by
  have := h.few
  refine ⟨by simp only [lnC, List.length_append, List.length_map, List.length_cons, List.length_nil]; omega, fun z hz => ?_⟩
  simp only [lnC, List.mem_append, List.mem_singleton, List.mem_map] at hz
  rcases hz with ((rfl | ⟨s, hs, rfl⟩) | ⟨v, hv, rfl⟩) | ⟨v, hv, rfl⟩
  · have := lens; have := h.n; rw [app_len]; omega
  · exact lnS_len (h.s s hs)
  · exact lnL_len (h.l v hv)
  · exact lnP_len (h.p v hv)
def lnR (rs : List Rw) : List Str := rs.flatMap lnC
theorem lnR_len : ∀ {rs : List Rw}, (∀ r ∈ rs, SmR r) → (lnR rs).length ≤ 301 * rs.length ∧ ∀ z ∈ lnR rs, z.length ≤ 1000
  | [], _ => ⟨by simp [lnR], fun z h => by simp [lnR] at h⟩
  | r :: rs, h => by
    obtain ⟨h1, h2⟩ := lnR_len (rs := rs) fun x hx => h x (List.mem_cons_of_mem _ hx)
    obtain ⟨h3, h4⟩ := lnC_len (h r List.mem_cons_self)
    have e : lnR (r :: rs) = lnC r ++ lnR rs := by simp [lnR]
    rw [e, List.length_append, List.length_cons]
    refine ⟨by omega, fun z hz => ?_⟩
    rcases List.mem_append.mp hz with hz | hz
    · exact h4 z hz
    · exact h2 z hz
theorem sumL_le {k : Nat} : ∀ {zs : List Str}, (∀ z ∈ zs, z.length ≤ k) → sumL zs ≤ k * zs.length
  | [], _ => by simp [sumL]
  | z :: zs, h => by
    have h1 := h z List.mem_cons_self
    have h2 := sumL_le (zs := zs) fun x hx => h x (List.mem_cons_of_mem _ hx)
    rw [sumL_cons, List.length_cons, Nat.mul_succ]; omega
theorem lnR_join {rs : List Rw} (h : ∀ r ∈ rs, SmR r) (hl : rs.length ≤ 20) : sumL (lnR rs) + (lnR rs).length * ("\n" : Str).length ≤ 16777216 := by
  obtain ⟨h1, h2⟩ := lnR_len h
  have h3 := sumL_le h2
  have := lens
  have h4 : 301 * rs.length ≤ 301 * 20 := Nat.mul_le_mul_left _ hl
  have h5 : 1000 * (lnR rs).length ≤ 1000 * 6020 := Nat.mul_le_mul_left _ (by omega)
  rw [this.2.2.2.2.2]
  omega
theorem lnR_snoc (rs : List Rw) (r : Rw) : lnR (rs ++ [r]) = lnR rs ++ lnC r := by simp [lnR]
/-! ### a library of drawn cells, far away -/
def farS (a b : Int) (s : Shp) : Shp := (s.1, s.2.scl a b)
def farL (a b : Int) (v : Lab) : Lab := ⟨v.n, v.l, v.x * a + b, v.y - b⟩
def farR (a b : Int) (r : Rw) : Rw := ⟨r.n, r.S.map (farS a b), r.L.map (farL a b), r.P⟩
theorem lk_at {g : LRow → D} {R : List LRow} {i : Nat} {x : LRow} (nd : (nmsL R).Nodup) (h : R[i]? = some x) : lookK (keyL R) (R.map g) (Sum.inr x.r.n) = some (g x) := by
  have hm : x.r.n ∈ nmsL R := List.mem_map.mpr ⟨x, List.mem_of_getElem? h, rfl⟩
  obtain ⟨y, hy, e, hf⟩ := find_mem hm
  obtain ⟨j, hj⟩ := List.getElem?_of_mem hy
  have h1 : (nmsL R)[i]? = some x.r.n := by unfold nmsL; rw [List.getElem?_map, h]; rfl
  have h2 : (nmsL R)[j]? = some x.r.n := by unfold nmsL; rw [List.getElem?_map, hj, ← e]; rfl
  have : i = j := (List.getElem?_inj (List.getElem?_eq_some_iff.mp h1).1 nd).mp (h1.trans h2.symm)
  subst this
  rw [h] at hj; cases hj
  rw [lk_find, hf]; rfl
/-! the drawn rows: names that differ, cells that are valid, small numbers -/
theorem dig_last : ∀ a : Fin 10, (Str.ofString (toString (a.val : Int))).cps.toList = [48 + a.val] := by decide +kernel
theorem qNam_last (ns : List Int) (f : Int) {k : Nat} (h : k < 10) : (qNam ns f k).cps.toList.getLast? = some (48 + k) := by
  unfold qNam
  rw [cps_app, dig_last ⟨k, h⟩]
  simp
theorem qNam_inj {ns : List Int} {f : Int} {i j : Nat} (hi : i < 10) (hj : j < 10) (h : qNam ns f i = qNam ns f j) : i = j := by
  have e := qNam_last ns f hi
  rw [h, qNam_last ns f hj] at e
  have := Option.some.inj e
  omega
def farL' (ns : List Int) (f a b : Int) (m : Nat) : List Rw := (qRws ns f m).map (farR a b)
theorem farL'_get {ns : List Int} {f a b : Int} {m k : Nat} (h : k < m) : (farL' ns f a b m)[k]? = some (farR a b (qRw ns f k)) := by
  unfold farL' qRws; rw [List.getElem?_map, List.getElem?_map, List.getElem?_range h]; rfl
theorem farL'_len (ns : List Int) (f a b : Int) (m : Nat) : (farL' ns f a b m).length = m := by unfold farL'; rw [List.length_map, qRws_len]
theorem farL'_take {ns : List Int} {f a b : Int} {m k : Nat} (h : k ≤ m) : (farL' ns f a b m).take k = farL' ns f a b k := by
  unfold farL' qRws; rw [← List.map_take, ← List.map_take, List.take_range, Nat.min_eq_left h]
theorem nms_far (ns : List Int) (f a b : Int) (m : Nat) : nmsL (libL (farL' ns f a b m)) = (List.range m).map (qNam ns f) := by
  rw [libL_nms]; unfold farL' qRws; rw [List.map_map, List.map_map]; rfl
theorem far_nodup (ns : List Int) (f a b : Int) {m : Nat} (hm : m ≤ 10) : (nmsL (libL (farL' ns f a b m))).Nodup := by
  rw [nms_far]
  exact List.pairwise_map.mpr (List.Pairwise.imp_of_mem (fun {i j} hi hj (h : i ≠ j) e => h (qNam_inj (by have := List.mem_range.mp hi; omega) (by have := List.mem_range.mp hj; omega) e)) List.nodup_range)
theorem col5_bd (d : Int) : 1 ≤ col5 d ∧ col5 d ≤ 100 := by
  unfold col5
  have e1 := Int.emod_nonneg d (b := 5) (by decide)
  have e2 := Int.emod_lt_of_pos d (b := 5) (by decide)
  generalize d % 5 = z at e1 e2
  have : z = 0 ∨ z = 1 ∨ z = 2 ∨ z = 3 ∨ z = 4 := by omega
  rcases this with rfl | rfl | rfl | rfl | rfl <;> decide
theorem lin3_bd (d : Int) : 1 ≤ lin3 d ∧ lin3 d ≤ 100 := by
  unfold lin3
  have e1 := Int.emod_nonneg (d / 5) (b := 3) (by decide)
  have e2 := Int.emod_lt_of_pos (d / 5) (b := 3) (by decide)
  generalize d / 5 % 3 = z at e1 e2
  have : z = 0 ∨ z = 1 ∨ z = 2 := by omega
  rcases this with rfl | rfl | rfl <;> decide
theorem qPls_at {ns : List Int} {f : Int} {k i : Nat} {p : Pla} (h : p ∈ qPls ns f k i) : ∃ j, j < i ∧ p = qPl ns f k j := by
  unfold qPls at h
  obtain ⟨j, h1, h2⟩ := List.mem_map.mp h
  exact ⟨j, List.mem_range.mp h1, h2.symm⟩
theorem far_can (ns : List Int) (f a b : Int) {k : Nat} (hk : k < 10) : CanL (libL (farL' ns f a b k)) (farR a b (qRw ns f k)) := by
  have hl := qRw_len ns f k
  have hp := qPn_le ns f k
  refine ⟨fun h => ?_, fun p h => ?_, ⟨?_, ?_, ?_⟩, fun p h => ?_⟩
  · rw [nms_far] at h
    obtain ⟨i, h1, h2⟩ := List.mem_map.mp h
    have h1' := List.mem_range.mp h1
    have := qNam_inj (by omega) hk h2
    omega
  · obtain ⟨j, hj, rfl⟩ := qPls_at (show p ∈ qPls ns f k (qPn ns f k) from h)
    rw [nms_far]
    refine List.mem_map.mpr ⟨_, List.mem_range.mpr ?_, rfl⟩
    have h1 := Int.emod_nonneg (qDr ns f k (6 * (j : Int) + 1)) (b := (k : Int)) (by omega)
    have h2 := Int.emod_lt_of_pos (qDr ns f k (6 * (j : Int) + 1)) (b := (k : Int)) (by omega)
    omega
  · show ((qRw ns f k).S.map _).length ≤ 1000; rw [List.length_map]; omega
  · show ((qRw ns f k).L.map _).length ≤ 1000; rw [List.length_map]; omega
  · show (qRw ns f k).P.length ≤ 1000; omega
  · obtain ⟨j, hj, rfl⟩ := qPls_at (show p ∈ qPls ns f k (qPn ns f k) from h)
    exact ⟨col5_bd _, lin3_bd _⟩
theorem far_ok (ns : List Int) (f a b : Int) {m : Nat} (hm : m ≤ 10) : LibOk (farL' ns f a b m) := fun k c h => by
  have hk : k < m := by have := (List.getElem?_eq_some_iff.mp h).1; rwa [farL'_len] at this
  rw [farL'_get hk] at h; cases h
  rw [farL'_take (Nat.le_of_lt hk)]
  exact far_can ns f a b (by omega)
theorem far_cel (ns : List Int) (f : Int) {a b : Int} (ha : 1 ≤ a) {k : Nat} (hk : k < 64) : CelOk (farR a b (qRw ns f k)).n (farR a b (qRw ns f k)).S (farR a b (qRw ns f k)).L (farR a b (qRw ns f k)).P := by
  have ok := qRw_ok ns f hk
  refine ⟨ok.n, fun x h => ?_, fun x h => ?_, ok.p⟩
  · obtain ⟨s, hs, rfl⟩ := List.mem_map.mp h
    have h1 := ok.s s hs
    unfold shB at h1 ⊢
    simp only [Bool.and_eq_true, decide_eq_true_eq] at h1 ⊢
    obtain ⟨h2, h3, h4⟩ := h1
    refine ⟨h2, ?_, ?_⟩
    · show s.2.a * a + b < s.2.c * a + b
      have := Int.mul_lt_mul_of_pos_right h3 (show 0 < a by omega); omega
    · show s.2.b * a + b < s.2.d * a + b
      have := Int.mul_lt_mul_of_pos_right h4 (show 0 < a by omega); omega
  · obtain ⟨v, hv, rfl⟩ := List.mem_map.mp h
    exact ok.l v hv
theorem abs_aff {x a b : Int} (hx : x.natAbs ≤ 1000) (ha : a.natAbs ≤ 10 ^ 30) (hb : b.natAbs ≤ 10 ^ 30) : Sm (x * a + b) := ⟨by
  have h1 : (x * a + b).natAbs ≤ (x * a).natAbs + b.natAbs := Int.natAbs_add_le _ _
  rw [Int.natAbs_mul] at h1
  have h2 : x.natAbs * a.natAbs ≤ 1000 * 10 ^ 30 := Nat.mul_le_mul hx ha
  omega⟩
theorem sm_small {x : Int} (h : x.natAbs ≤ 10 ^ 31) : Sm x := ⟨by omega⟩
theorem lay_len : ∀ n ∈ layN, n.length ≤ 12 := by decide +kernel
theorem lab_len : ∀ n ∈ labN, n.length ≤ 12 := by decide +kernel
theorem nameB_12 {n : Str} (h : nameB n = true) : n.length ≤ 12 := nameB_len h
theorem far_sm (ns : List Int) (f : Int) {a b : Int} (ha : 1 ≤ a ∧ a ≤ 10 ^ 30) (hb : b.natAbs ≤ 10 ^ 30) {k : Nat} (hk : k < 10) : SmR (farR a b (qRw ns f k)) := by
  have ok := qRw_ok ns f (show k < 64 by omega)
  have hl := qRw_len ns f k
  refine ⟨nameB_12 ok.n, fun s h => ?_, fun v h => ?_, fun p h => ?_, ?_, ?_, ?_⟩
  · obtain ⟨s0, hs, rfl⟩ := List.mem_map.mp h
    have h1 := ok.s s0 hs
    unfold shB at h1
    simp only [Bool.and_eq_true, decide_eq_true_eq] at h1
    have hq : s0 ∈ qShL (cellAt ns (f + 3 * (k : Int) + 1)) 3 (qCnt3 (cellAt ns (f + 3 * (k : Int) + 1)) 3) := hs
    unfold qShL at hq
    obtain ⟨i, _, rfl⟩ := List.mem_map.mp hq
    obtain ⟨d, hd⟩ : ∃ d, d = dr (cellAt ns (f + 3 * (k : Int) + 1)) (3 * 3 + 1) (3 * (i : Int)) := ⟨_, rfl⟩
    obtain ⟨e, he⟩ : ∃ e, e = dr (cellAt ns (f + 3 * (k : Int) + 1)) (3 * 3 + 1) (3 * (i : Int) + 1) := ⟨_, rfl⟩
    have e1 : (qSh (cellAt ns (f + 3 * (k : Int) + 1)) 3 i).2 = boxOf d e := by rw [hd, he]; rfl
    have hbx : (boxOf d e).a.natAbs ≤ 1000 ∧ (boxOf d e).b.natAbs ≤ 1000 ∧ (boxOf d e).c.natAbs ≤ 1000 ∧ (boxOf d e).d.natAbs ≤ 1000 := by
      unfold boxOf bx0 by0 bx1 by1; simp only; omega
    refine ⟨lay_len _ h1.1, ?_⟩
    show Sm ((qSh _ 3 i).2.a * a + b) ∧ Sm ((qSh _ 3 i).2.b * a + b) ∧ Sm ((qSh _ 3 i).2.c * a + b) ∧ Sm ((qSh _ 3 i).2.d * a + b)
    rw [e1]
    exact ⟨abs_aff hbx.1 (by omega) hb, abs_aff hbx.2.1 (by omega) hb, abs_aff hbx.2.2.1 (by omega) hb, abs_aff hbx.2.2.2 (by omega) hb⟩
  · obtain ⟨v0, hv, rfl⟩ := List.mem_map.mp h
    have h1 := ok.l v0 hv
    unfold labB at h1
    simp only [Bool.and_eq_true, decide_eq_true_eq] at h1
    have hq : v0 ∈ qLaL (cellAt ns (f + 3 * (k : Int) + 2)) 2 (qCnt3 (cellAt ns (f + 3 * (k : Int) + 2)) 2) := hv
    unfold qLaL at hq
    obtain ⟨i, _, rfl⟩ := List.mem_map.mp hq
    have hx : (qLa (cellAt ns (f + 3 * (k : Int) + 2)) 2 i).x.natAbs ≤ 1000 ∧ (qLa (cellAt ns (f + 3 * (k : Int) + 2)) 2 i).y.natAbs ≤ 1000 := by
      unfold qLa; simp only; omega
    refine ⟨nameB_12 h1.1, lab_len _ h1.2, abs_aff hx.1 (by omega) hb, sm_small ?_⟩
    show (_ - b : Int).natAbs ≤ _
    omega
  · have h1 := ok.p p h
    unfold plaB at h1
    simp only [Bool.and_eq_true, decide_eq_true_eq] at h1
    obtain ⟨j, hj, rfl⟩ := qPls_at (show p ∈ qPls ns f k (qPn ns f k) from h)
    refine ⟨nameB_12 h1.1, ⟨sm_small (by omega), sm_small ?_, sm_small ?_⟩, ⟨sm_small (by omega), sm_small (by omega)⟩, sm_small ?_, sm_small ?_⟩
    all_goals (simp only [qPl]; omega)
  · show ((qRw ns f k).S.map _).length ≤ 100; rw [List.length_map]; omega
  · show ((qRw ns f k).L.map _).length ≤ 100; rw [List.length_map]; omega
  · show (qRw ns f k).P.length ≤ 100; omega
end DL
namespace DL
open PySem PySem.Spec PyProof.Rows L2
/-! ### k29 -/
theorem key_rs (rs : List Rw) : (keyL (libL rs)).map kD = rs.map fun r => D.str r.n := by
  conv => rhs; rw [← libL_rw rs]
  unfold keyL
  rw [List.map_map, List.map_map]; rfl
theorem lk_cell {rs : List Rw} {i : Nat} {r : Rw} (nd : (nmsL (libL rs)).Nodup) (h : rs[i]? = some r) : lookK (keyL (libL rs)) ((libL rs).map fun x => celR x.r) (Sum.inr r.n) = some (celR r) := by
  have h2 := congrArg (·[i]?) (libL_rw rs)
  simp only [List.getElem?_map, h] at h2
  cases hx : (libL rs)[i]? with
  | none => rw [hx] at h2; cases h2
  | some x =>
    rw [hx] at h2
    have e : x.r = r := Option.some.inj h2
    rw [← e]
    exact lk_at (g := fun x => celR x.r) nd hx
def scTab : List (Int × Int) := [(1, 0), (1, -100000000000000000000000000000), (100000000000000000000, 7), (10000000000000000000000000000, -100000000000000000000000000000)]
def scE (p : Int × Int) : D := .tup [.int p.1, .int p.2]
def scAt (c : Int) : Int × Int := scTab.getD (c % 4).toNat (1, 0)
theorem scAt_bd (c : Int) : (1 ≤ (scAt c).1 ∧ (scAt c).1 ≤ 10 ^ 30) ∧ (scAt c).2.natAbs ≤ 10 ^ 30 := by
  unfold scAt
  have e1 := Int.emod_nonneg c (b := 4) (by decide)
  have e2 := Int.emod_lt_of_pos c (b := 4) (by decide)
  generalize c % 4 = z at e1 e2
  have : z = 0 ∨ z = 1 ∨ z = 2 ∨ z = 3 := by omega
  rcases this with rfl | rfl | rfl | rfl <;> decide +kernel
structure Lil (r : Rw) : Prop where
  s : ∀ s ∈ r.S, s.2.a.natAbs ≤ 1000 ∧ s.2.b.natAbs ≤ 1000 ∧ s.2.c.natAbs ≤ 1000 ∧ s.2.d.natAbs ≤ 1000
  l : ∀ v ∈ r.L, v.x.natAbs ≤ 1000 ∧ v.y.natAbs ≤ 1000
  few : r.S.length ≤ 100 ∧ r.L.length ≤ 100 ∧ r.P.length ≤ 100
theorem qRw_lil (ns : List Int) (f : Int) (k : Nat) : Lil (qRw ns f k) := by
  have hl := qRw_len ns f k
  refine ⟨fun s hs => ?_, fun v hv => ?_, by omega, by omega, by omega⟩
  · have hq : s ∈ qShL (cellAt ns (f + 3 * (k : Int) + 1)) 3 (qCnt3 (cellAt ns (f + 3 * (k : Int) + 1)) 3) := hs
    unfold qShL at hq
    obtain ⟨i, _, rfl⟩ := List.mem_map.mp hq
    obtain ⟨d, hd⟩ : ∃ d, d = dr (cellAt ns (f + 3 * (k : Int) + 1)) (3 * 3 + 1) (3 * (i : Int)) := ⟨_, rfl⟩
    obtain ⟨e, he⟩ : ∃ e, e = dr (cellAt ns (f + 3 * (k : Int) + 1)) (3 * 3 + 1) (3 * (i : Int) + 1) := ⟨_, rfl⟩
    have e1 : (qSh (cellAt ns (f + 3 * (k : Int) + 1)) 3 i).2 = boxOf d e := by rw [hd, he]; rfl
    rw [e1]
    unfold boxOf bx0 by0 bx1 by1; simp only; omega
  · have hq : v ∈ qLaL (cellAt ns (f + 3 * (k : Int) + 2)) 2 (qCnt3 (cellAt ns (f + 3 * (k : Int) + 2)) 2) := hv
    unfold qLaL at hq
    obtain ⟨i, _, rfl⟩ := List.mem_map.mp hq
    unfold qLa; simp only; omega
theorem qRws_lil {ns : List Int} {f : Int} {m : Nat} : ∀ r ∈ qRws ns f m, Lil r := fun r h => by
  unfold qRws at h
  obtain ⟨k, _, rfl⟩ := List.mem_map.mp h
  exact qRw_lil ns f k
theorem farL'_all {P : Rw → Prop} {ns : List Int} {f a b : Int} {m : Nat} (h : ∀ k, k < m → P (farR a b (qRw ns f k))) : ∀ r ∈ farL' ns f a b m, P r := fun r hr => by
  unfold farL' qRws at hr
  rw [List.map_map] at hr
  obtain ⟨k, hk, rfl⟩ := List.mem_map.mp hr
  exact h k (List.mem_range.mp hk)
end DL

/-! list of a dict; {k: True for ..}; an own dict looked at; not in a list of texts. -/
namespace DL
open PySem PySem.Spec PyProof.Rows L2
section
variable {X : Cx} {ρ : En} {pos : Pos} {e : Expr}
theorem call_listDk (hc : X.calm = true) : CallR X (.type "list") (fun vs H Q => ∃ a kvs, vs = [V.ref a] ∧ Rd H a (.dK kvs) ∧ ∀ p, H p = none → Q (.ref p) (upd H p (.lst (kvs.map fun kv => kV kv.1)))) := by
  intro pins s σ H vs us Q I r h
  obtain ⟨a, kvs, rfl, hd, q⟩ := h
  rw [Vals.ref1 r]
  obtain ⟨z, lo, xs, rel, dd⟩ := dk_rd I.hok hd
  have hl : xs.length ≤ sizeLine := by rw [← rel.length]; exact z
  obtain ⟨o, es, ep, ho, hex, hdat, qq⟩ := dd
  refine PySem.W.kdl_call (PySem.W.kdl_dict (knd := mixKind X.prog X.w) (kvs := xs) (ep := ep) lo) (I.ok.hd hc) ⟨o, es, ho, hex, hdat, qq⟩ hl fun h' tk acc c' hk hS hacc => ?_
  have hv := keys_vals (P := X.prog) (w := X.w) rel hacc
  exact ⟨.ref _, _, I.laid (t' := tk) hk (Nat.le_refl _) (show ObjOk X.prog X.w _ h' _ (.lst (kvs.map fun kv => kV kv.1)) from ⟨by rw [List.length_map]; exact z, acc.toList, c', hv, by simpa using hS⟩), rfl, q _ (I.hok.fresh (Nat.le_refl _))⟩
theorem bo_listDk {ks : List Key} {ds : List D} (hc : X.calm = true) : BO X (.type "list") [.dk ks ds] (.lst (ks.map kD)) := ⟨_, call_listDk hc, fun H0 H vs Q s r k => by
  obtain ⟨x, rfl, h⟩ := r.one'
  obtain ⟨a, ws, rfl, h1, h2, h3⟩ := h
  refine ⟨a, _, rfl, Same.rd s h1, fun p hp => ?_⟩
  have e : (ks.zip ws).map (fun kv => kV kv.1) = ks.map kV := by
    rw [show (fun kv : Key × V => kV kv.1) = kV ∘ Prod.fst from rfl, ← List.map_map, List.map_fst_zip (Nat.le_of_eq h2)]
  rw [e]
  have g := JH.own (o := .lst (ks.map kV)) s hp
  exact k p _ _ _ g upd_same (s.free hp) hp ⟨_, rfl, keys_dr ks⟩⟩
theorem c2_notInStr {x : Str} {ys : List Str} {d : D} (hd : SeqD d (ys.map D.str)) : C2 X .NotIn (.str x) d (.bl (!decide (x ∈ ys))) := ⟨_, op_notIn_seq, fun H0 H u v Q s r1 r2 k => by
  cases (show u = .str x from r1)
  have hf : (ys.map V.str).all flatV = true := by simp [flatV]
  have hi : inV (.str x) (ys.map V.str) = decide (x ∈ ys) := by
    unfold inV
    rw [Bool.eq_iff_iff]
    simp only [List.any_eq_true, List.mem_map, decide_eq_true_eq]
    constructor
    · rintro ⟨v, ⟨y, hy, rfl⟩, h⟩
      have : y = x := by simpa [eqV] using h
      exact this ▸ hy
    · intro h
      exact ⟨.str x, ⟨x, h, rfl⟩, by simp [eqV]⟩
  have fin : Q (.bl (if true = true then !inV (.str x) (ys.map V.str) else inV (.str x) (ys.map V.str))) H := by
    rw [hi]; exact k _ H0 H (JH.refl s) rfl
  cases hd with
  | lst =>
    obtain ⟨a, vs, rfl, h1, h2⟩ := r2
    rw [DRs.strs h2] at h1
    exact ⟨a, _, rfl, .inl (s.seq h1), rfl, hf, fin⟩
  | tup =>
    obtain ⟨a, vs, rfl, h1, h2⟩ := r2
    rw [DRs.strs h2] at h1
    exact ⟨a, _, rfl, .inr (Same.seqT s h1), rfl, hf, fin⟩⟩
/-- what a slot owns is shown while e is asked, which gives what stands nowhere -/
theorem ed_showO (i : Nat) {c : OC} {d : D} (hi : ρ[i]? = some (.ow c)) (h : ED X (ρ.set i (.sh c.d)) e d) (hf : fltD d = true := by rfl) : ED X ρ e d := fun B0 B σ H0 H Q j kk => by
  obtain ⟨a, j'⟩ := j.tell hi
  have hl : i < ρ.length := (List.getElem?_eq_some_iff.mp hi).1
  refine ed_show (ρ := ρ.set i (.ox [(a, c)] (.ad a))) i c.d (by rw [List.getElem?_set_self hl]) (fun K H v h1 h2 => ?_) (by rw [List.set_set]; exact h) hf B0 B σ H0 H Q j' kk
  cases (show v = .ref a from h2)
  exact h1 (a, c) (List.mem_singleton_self _)
theorem td_showO (i : Nat) {c : OC} {k : Bool} (hi : ρ[i]? = some (.ow c)) (h : TD X (ρ.set i (.sh c.d)) e k) : TD X ρ e k := fun B0 B σ H0 H Q j kk => by
  obtain ⟨a, j'⟩ := j.tell hi
  have hl : i < ρ.length := (List.getElem?_eq_some_iff.mp hi).1
  refine td_show (ρ := ρ.set i (.ox [(a, c)] (.ad a))) i c.d (by rw [List.getElem?_set_self hl]) (fun K H v h1 h2 => ?_) (by rw [List.set_set]; exact h) B0 B σ H0 H Q j' kk
  cases (show v = .ref a from h2)
  exact h1 (a, c) (List.mem_singleton_self _)
def fltDs : List D → Bool
  | [] => true
  | d :: ds => fltD d && fltDs ds
theorem fltDs_map {α : Type} {f : α → D} (h : ∀ x, fltD (f x) = true) : ∀ xs : List α, fltDs (xs.map f) = true
  | [] => rfl
  | x :: xs => by show (fltD (f x) && fltDs (xs.map f)) = true; rw [h x, fltDs_map h xs]; rfl
theorem DRs.flat {K : PySem.W.Frag} {H H' : Hp} : ∀ {ds : List D} {vs : List V}, fltDs ds = true → DRs K H ds vs → DRs K H' ds vs
  | [], vs, _, h => h
  | d :: ds, vs, f, h => by
    obtain ⟨v, w, rfl, h1, h2⟩ := h
    have f' : (fltD d && fltDs ds) = true := f
    rw [Bool.and_eq_true] at f'
    exact ⟨v, w, rfl, DR.flat f'.1 h1, DRs.flat f'.2 h2⟩
/-- the same for a new list of what stands nowhere -/
theorem eo_show (i : Nat) (d' : D) {d0 : D} {cs : Cs} {ds : List D} (hi : ρ[i]? = some (.ox cs d0)) (hd : ∀ (K : PySem.W.Frag) (H : Hp) v, (∀ p ∈ cs, DR K H p.2.d (.ref p.1)) → DR K H d0 v → DR K H d' v) (h : EO X (ρ.set i (.sh d')) e (.lst ds)) (hf : fltDs ds = true := by first | rfl | exact fltDs_map (fun _ => rfl) _) : EO X ρ e (.lst ds) := fun B0 B σ H0 H Q j kk => by
  obtain ⟨H1, j1, s1, r1, n1, z1⟩ := shareAllX j hi
  have hl : i < σ.length := by rw [j.len]; exact (List.getElem?_eq_some_iff.mp hi).1
  obtain ⟨ov, e1, v, e2, r2⟩ := j1.get (i := i) (s := .sh d0) (by rw [List.getElem?_set_self (by rw [← j.len]; exact hl)])
  have j2 := j1.setSl (i := i) (s := .sh d') e1 ⟨v, e2, hd _ _ v r1 r2⟩ fun a w => w.elim
  rw [List.set_set] at j2
  refine h B0 B σ H1 H Q j2 fun a o G0 G g w1 w2 w3 w4 => kk a o (ers G0 (pl cs)) G (g.unshow s1 n1 z1) w1 ?_ w3 ?_
  · by_cases m : a ∈ pl cs
    · exact ers_in m
    · rw [ers_out m]; exact w2
  · obtain ⟨vs, rfl, r⟩ := w4
    exact ⟨vs, rfl, DRs.flat hf r⟩
section
variable {elt tg iter : Expr} {ifs : List Expr} {scope : Scope} {ds : List D} {cpos : Pos} {α β : Type} {Φ : Out → Prop}
/-- y = [.. for ..] while the cells of slot n are shown; its items stand nowhere -/
theorem ws_setMap2S (n : Nat) (d' : D) {d0 : D} {cs : Cs} (hn : ρ[n]? = some (.ox cs d0)) (hd : ∀ (K : PySem.W.Frag) (H : Hp) v, (∀ p ∈ cs, DR K H p.2.d (.ref p.1)) → DR K H d0 v → DR K H d' v) (i : Nat) (own : List (Str × Nat)) (xs : List α) (enc : α → D) (g : α → β) (enc2 : β → D) {y : Str} {py : Pos} (hc : X.calm = true) (hN : X.N.Nodup) (ok : BlkOk X.N X.env.scope scope own) (hi : ID X (ρ.set n (.sh d')) tg iter ds) (he : ds = xs.map enc) (turn : ∀ x ∈ xs, Turn1 X (ρ.set n (.sh d')) scope (own.map (·.2)) tg elt ifs (enc x) (some (enc2 (g x)))) (hl : xs.length ≤ sizeLine)
    (hΦ : Φ (.nx (ρ.set i (.ow (.lst ((xs.map g).map enc2)))))) (hf : ∀ b, fltD (enc2 b) = true := by intro _; rfl) (hy : X.N[i]? = some y := by rfl) (hyl : X.env.scope.names.lookup y = some .local := by rfl)
    (hsw : swapsWith (.ListComp elt [⟨tg, iter, ifs, 0⟩] scope cpos) (some (.Name y py)) pos.line X.env = pure true := by exact sw_true rfl rfl rfl (by decide +kernel)) (hs : ∀ x, foldedSetIterable iter X.env x = pure x := by intro _; rfl) :
    WS X (.Assign [.Name y py] (.ListComp elt [⟨tg, iter, ifs, 0⟩] scope cpos) pos) ρ Φ := fun B0 B σ H0 H Dn j k => by
  obtain ⟨H1, j1, s1, r1, n1, z1⟩ := shareAllX j hn
  have hl1 : n < σ.length := by rw [j.len]; exact (List.getElem?_eq_some_iff.mp hn).1
  obtain ⟨ov, e1, v, e2, r2⟩ := j1.get (i := n) (s := .sh d0) (by rw [List.getElem?_set_self (by rw [← j.len]; exact hl1)])
  have j2 := j1.setSl (i := n) (s := .sh d') e1 ⟨v, e2, hd _ _ v r1 r2⟩ fun a w => w.elim
  rw [List.set_set] at j2
  refine ⟨_, ps_setLc hc hN hy hyl hsw pi_star ok (g := GB X scope tg) (tt := TB X scope ifs) (te := EB X scope elt)
    (fun s H C cl fp => ⟨fun pins s1 σ1 H1 v u Q1 I r h => (pg_star (tg := tg)).run pins s1 σ1 H1 v u Q1 I r (h s H C cl fp)⟩)
    (fun s H C cl fp => ⟨fun pins s1 σ1 H1 Q1 I h => by obtain ⟨t, h1, h2⟩ := h s H C cl fp; exact h1.run pins s1 σ1 H1 Q1 I h2⟩)
    (fun s H C cl fp => ⟨fun pins s1 σ1 H1 Q1 I h => (pe_star (e := elt)).run pins s1 σ1 H1 Q1 I (h s H C cl fp)⟩) hs,
   lc_read hi (xs.map fun x => some (enc2 (g x))) (by rw [he]; simp) (turns_map he turn) (by rw [he]; simpa using hl) j2 fun a o G0 G gg h1 h2 h3 r => ?_⟩
  rw [filterMap_some] at r
  refine k _ hΦ _ (ers G0 (pl cs)) G (j.setNew (gg.unshow s1 n1 z1) h1 ?_ h3 ?_)
  · by_cases m : a ∈ pl cs
    · exact ers_in m
    · rw [ers_out m]; exact h2
  · obtain ⟨vs, rfl, r⟩ := r
    refine ⟨vs, rfl, ?_⟩
    rw [show (xs.map fun x => enc2 (g x)) = (xs.map g).map enc2 by rw [List.map_map]; rfl] at r
    exact DRs.flat (fltDs_map hf _) r
end
end
/-! ### {k: True for x in xs} -/
def trus (n : Nat) : List V := List.replicate n (.bl true)
theorem putK_has {κ : Type} [DecidableEq κ] {k : κ} : ∀ {ks : List κ}, k ∈ ks → (ks.zip (trus ks.length)).map (fun kv => if kv.1 = k then (kv.1, V.bl true) else kv) = ks.zip (trus ks.length) := fun {ks} _ => by
  conv => rhs; rw [← List.map_id (ks.zip (trus ks.length))]
  refine List.map_congr_left fun p hp => ?_
  have := (List.of_mem_zip hp).2
  have e : p.2 = .bl true := by unfold trus at this; exact (List.mem_replicate.mp this).2
  split
  · show (p.1, V.bl true) = id p
    rw [← e]; rfl
  · rfl
theorem putK_tru {ks : List Key} {k : Key} : putK (ks.zip (trus ks.length)) k (.bl true) = (stepK ks k).zip (trus (stepK ks k).length) := by
  by_cases h : k ∈ ks
  · have e : stepK ks k = ks := if_pos h
    rw [e]
    unfold putK
    have a : ((ks.zip (trus ks.length)).any fun kv => decide (kv.1 = k)) = true := by
      rw [List.any_eq_true]
      obtain ⟨i, hi⟩ := List.getElem?_of_mem h
      have hl := (List.getElem?_eq_some_iff.mp hi).1
      refine ⟨(k, .bl true), ?_, by simp⟩
      refine List.mem_of_getElem? (i := i) ?_
      refine List.getElem?_zip_eq_some (z := (k, V.bl true)) |>.mpr ⟨hi, ?_⟩
      show (List.replicate ks.length (V.bl true))[i]? = some (V.bl true)
      rw [List.getElem?_replicate, if_pos hl]
    rw [a, if_pos rfl, putK_has h]
  · have e : stepK ks k = ks ++ [k] := if_neg h
    rw [e, putK_zip (by simp [trus]) h]
    congr 1
    unfold trus
    rw [List.length_append, List.length_singleton, List.replicate_succ']
theorem drs_trus {K : PySem.W.Frag} {H : Hp} : ∀ n, DRs K H (List.replicate n (D.bl true)) (trus n)
  | 0 => rfl
  | n + 1 => ⟨.bl true, trus n, rfl, rfl, drs_trus n⟩
section
variable {X : Cx} {ρ : En} {kx tg iter : Expr} {scope : Scope} {ds : List D} {cpos p2 : Pos} {kk2 : Nat} {α : Type}
theorem eo_dcT (own : List (Str × Nat)) (xs : List α) (enc : α → D) (kf : α → Key) (hc : X.calm = true) (hN : X.N.Nodup) (ok : BlkOk X.N X.env.scope scope own) (hi : ID X ρ tg iter ds) (he : ds = xs.map enc)
    (turn : ∀ x ∈ xs, TurnD X ρ scope (own.map (·.2)) tg kx (.Constant (.bool true) kk2 p2) (enc x) (kf x) (.bl true)) (hl : xs.length ≤ sizeLine)
    (hs : ∀ x, foldedSetIterable iter X.env x = pure x := by intro _; rfl) : EO X ρ (.DictComp kx (.Constant (.bool true) kk2 p2) [⟨tg, iter, [], 0⟩] scope cpos) (.dk (ddK (xs.map kf)) (List.replicate (ddK (xs.map kf)).length (.bl true))) := fun B0 B σ H0 H Q j k => by
  subst he
  refine RE.of (pe_dc hc hN pi_star ok (g := GB X scope tg) (tt := TB X scope []) (tk := EB X scope kx) (tv := EB X scope (.Constant (.bool true) kk2 p2))
    (fun s H C cl fp => ⟨fun pins s1 σ1 H1 v u Q1 I r h => (pg_star (tg := tg)).run pins s1 σ1 H1 v u Q1 I r (h s H C cl fp)⟩)
    (fun s H C cl fp => ⟨fun pins s1 σ1 H1 Q1 I h => by obtain ⟨t, h1, h2⟩ := h s H C cl fp; exact h1.run pins s1 σ1 H1 Q1 I h2⟩)
    (fun s H C cl fp => ⟨fun pins s1 σ1 H1 Q1 I h => (pe_star (e := kx)).run pins s1 σ1 H1 Q1 I (h s H C cl fp)⟩)
    (fun s H C cl fp => ⟨fun pins s1 σ1 H1 Q1 I h => (pe_star (e := .Constant (.bool true) kk2 p2)).run pins s1 σ1 H1 Q1 I (h s H C cl fp)⟩) hs) ?_
  refine hi B0 B σ H0 H _ j fun Jt G0 G g0 ⟨GG, Y, w, hG, hY⟩ => fun Dn hD => ?_
  have j0 := j.grow g0
  rw [List.length_map] at w
  let kz : Nat → List Key := fun i => ddK ((xs.take i).map kf)
  refine dc_it (g := GB X scope tg) (tt := TB X scope []) (tk := EB X scope kx) (tv := EB X scope (.Constant (.bool true) kk2 p2)) (vs := own.map (·.2)) (Qd := fun H => Q (.ref Dn) H) w
    (fun i H1 => ∃ L0, JH G0 G L0 H1 ∧ H1 Dn = some (.dK ((kz i).zip (trus (kz i).length))) ∧ L0 Dn = none) ⟨G0, JH.own g0.sh hD, upd_same, g0.sh.free hD⟩ (fun i H1 _ ⟨L0, g1, _⟩ => hG L0 H1 g1.s0 g1.sh) ?_ ?_
  · rintro i x H1 H1' hi ⟨L0, g1, hDn, hD0⟩ hy
    obtain ⟨z, hz⟩ : ∃ z, xs[i]? = some z := ⟨xs[i], by simp [hi]⟩
    obtain ⟨L1, g2, rx⟩ := hY i L0 H1 x H1' (enc z) (by rw [List.getElem?_map, hz]; rfl) g1.s0 g1.sh hy
    obtain ⟨ρ', hlen', turn⟩ := turn z (List.mem_of_getElem? hz)
    have j1 := ((j0.grow g1).grow g2).wipe (own.map (·.2))
    intro s Hs C cl fp
    refine (turn s Hs C cl fp).1 B0 B _ L1 H1' x _ j1 rx fun σ2 j2 off => ⟨wipe_back (by rw [j2.len, hlen', ← wipeE_length ρ (own.map (·.2)), ← j1.len, wipe_length]) off, ?_⟩
    have gg := g1.trans g2
    have hDn' := g2.sB _ _ hDn
    have hD0' : L1 Dn = none := g2.fr _ _ hDn trivial hD0
    have eT : kz (i + 1) = stepK (kz i) (kf z) := by
      show ddK ((xs.take (i + 1)).map kf) = _
      rw [List.take_add_one, hz]
      simp only [Option.toList, List.map_append, List.map_cons, List.map_nil]
      exact ddK_snoc _ _
    intro s Hs C cl fp
    refine (tds_nil (X := X.blk s Hs scope (compEnvC scope cl C X.env) fp) (ρ := ρ')) B0 B σ2 L1 H1' _ j2 fun M0 M g3 => iteT fun s Hs C cl fp => ?_
    refine (turn s Hs C cl fp).2.1 B0 B σ2 M0 M _ (j2.grow g3) fun y N0 N g4 ry => fun s Hs C cl fp => ?_
    refine (turn s Hs C cl fp).2.2 B0 B σ2 N0 N _ ((j2.grow g3).grow g4) fun v P0 P g5 rv => ?_
    cases (show v = .bl true from rv)
    have g345 := (g3.trans g4).trans g5
    have h5 := g345.sB _ _ hDn'
    have h50 : P0 Dn = none := g345.fr _ _ hDn' trivial hD0'
    have gl := gg.trans g345
    refine ⟨_, kf z, kD_val ry, h5, ?_, P0, ⟨gl.s0, fun b u e => upd_keep (gl.sh b u e) (ne_of_none e h50), fun b u e => upd_keep (gl.sB b u e) (ne_of_none e hD), gl.fr⟩, ?_, h50⟩
    · have h1 : (kz i).length ≤ ((xs.take i).map kf).length := ddK_len _
      rw [List.length_map, List.length_take] at h1
      rw [List.length_zip]
      have : i < xs.length := hi
      omega
    · rw [upd_same, putK_tru, eT]
  · rintro H1 ⟨L0, g1, hDn, hD0⟩
    have e : kz xs.length = ddK (xs.map kf) := by show ddK ((xs.take xs.length).map kf) = _; rw [List.take_length]
    rw [e] at hDn
    exact k Dn _ L0 H1 (g0.trans g1) hDn hD0 (g0.sB.free hD) ⟨_, rfl, by simp [trus], drs_trus _⟩
end
end DL

/-! Texts taken apart: split, startswith, isdigit, int(text); a star in a tuple; enumerate(list, start=k); an own list lent to what gives no list. -/
namespace DL
open PySem PySem.Spec PyProof.Rows L2
theorem strs_dr {K : PySem.W.Frag} {H : Hp} : ∀ ys : List Str, DRs K H (ys.map D.str) (ys.map V.str)
  | [] => rfl
  | y :: ys => ⟨.str y, _, rfl, rfl, strs_dr ys⟩
section
variable {X : Cx} {ρ : En} {o e : Expr} {pos apos : Pos}
/-- o.split(e) -/
theorem eo_split {a b : Str} (ho : ED X ρ o (.str a)) (he : ED X ρ e (.str b)) (hb : (b.length == 0) = false) (hl : a.length + 2 ≤ sizeLine) (hs : starEach [e] X.env = [(false, eval e X.env)] := by rfl) (hbase : attributeBase o "split" X.env (eval o X.env) = eval o X.env := by rfl) (hline : (apos.endLine == pos.line) = true := by rfl) :
    EO X ρ (.Call (.Attribute o "split" apos) [e] [] pos) (.lst ((Txt.split a b).map .str)) := fun B0 B σ H0 H Q j k =>
  RE.of (pe_split pe_star pe_star hs hbase hline) (ho B0 B σ H0 H _ j fun v G0 G g r => by
    cases (show v = .str a from r)
    exact ⟨⟨a, rfl⟩, he B0 B σ G0 G _ (j.grow g) fun y L0 L g2 r2 => by
      cases (show y = .str b from r2)
      refine ⟨a, b, rfl, rfl, hb, hl, fun p hp => ?_⟩
      have g3 : JH L0 L L0 (upd L p (.lst ((Txt.split a b).map V.str))) := JH.own g2.sh hp
      have gg := (g.trans g2).trans g3
      exact k p _ _ _ gg upd_same (g2.sh.free hp) ((g.trans g2).sB.free hp) ⟨_, rfl, strs_dr _⟩⟩)
/-- o.startswith(e) -/
theorem ed_starts {a b : Str} (ho : ED X ρ o (.str a)) (he : ED X ρ e (.str b)) (hs : starEach [e] X.env = [(false, eval e X.env)] := by rfl) (hbase : attributeBase o "startswith" X.env (eval o X.env) = eval o X.env := by rfl) (hline : (apos.endLine == pos.line) = true := by rfl) :
    ED X ρ (.Call (.Attribute o "startswith" apos) [e] [] pos) (.bl (Txt.startswith a b)) := fun B0 B σ H0 H Q j k =>
  RE.of (pe_m1 PySem.F.slot_str_startswith PySem.F.type_str_startswith mt_startswith pe_star pe_star hs hbase hline) (ho B0 B σ H0 H _ j fun v G0 G g r => by
    cases (show v = .str a from r)
    exact ⟨⟨a, rfl⟩, he B0 B σ G0 G _ (j.grow g) fun y L0 L g2 r2 => by
      cases (show y = .str b from r2)
      exact ⟨a, b, rfl, rfl, k _ L0 L (g.trans g2) rfl⟩⟩)
/-- o.isdigit() -/
theorem ed_isdigit {a : Str} (ho : ED X ρ o (.str a)) (hbase : attributeBase o "isdigit" X.env (eval o X.env) = eval o X.env := by rfl) (hline : (apos.endLine == pos.line) = true := by rfl) :
    ED X ρ (.Call (.Attribute o "isdigit" apos) [] [] pos) (.bl (Txt.isdigit a)) := fun B0 B σ H0 H Q j k =>
  RE.of (pe_m0 PySem.F.slot_str_isdigit PySem.F.type_str_isdigit mt_isdigit pe_star hbase hline) (ho B0 B σ H0 H _ j fun v G0 G g r => by
    cases (show v = .str a from r)
    exact ⟨⟨a, rfl⟩, a, rfl, rfl, trivial, k _ G0 G g rfl⟩)
/-- int(text) -/
theorem bc_intS {a : Str} {n : Int} (h : PySem.intText? a = some n) (hl : a.length ≤ 640) : BC X (.type "int") [.str a] (.int n) := ⟨_, call_int_str, fun H0 H vs Q s r k => by
  obtain ⟨x, rfl, h1⟩ := r.one'
  cases (show x = .str a from h1)
  exact ⟨a, n, rfl, h, hl, k _ H0 H (JH.refl s) rfl⟩⟩
/-- (.., *e) -/
theorem ad_star {es : List Expr} {ds zs : List D} {p : Pos} (h : ED X ρ e (.tup zs)) (r : AD X ρ es ds) (hs : starEach (.Starred e p :: es) X.env = (true, eval e X.env) :: starEach es X.env := by rfl) : AD X ρ (.Starred e p :: es) (zs ++ ds) := fun B0 B σ H0 H Q j k =>
  RA.of (StX.pa_star pe_star DL.pa_star hs) (h B0 B σ H0 H _ j fun v G0 G g1 r1 => by
    obtain ⟨a, vs, rfl, h1, h2⟩ := r1
    exact ⟨a, vs, rfl, .inl (Same.seqT g1.sh h1), r B0 B σ G0 G _ (j.grow g1) fun ws L0 L g2 r2 => k (vs ++ ws) L0 L (g1.trans g2) (DRs.app (DRs.mono g2.s0 _ _ h2) r2)⟩)
theorem J.lendL {K : PySem.W.Frag} {B0 B H0 H : Hp} {σ : L2.St} {ρ : En} (j : J K B0 B σ H0 H ρ) {i : Nat} {da : List D} (h : ρ[i]? = some (.ow (.lst da))) :
    ∃ a va, H0 a = none ∧ J K B0 B σ (upd H0 a (.lst va)) H (ρ.set i (.sh (.lst da))) := by
  obtain ⟨ov, e1, a, o, e2, h1, h2, h3, va, rfl, h4⟩ := j.get h
  subst e2
  exact ⟨a, va, h2, (j.shareAt (s' := .sh (.lst da)) (c := .lst da) h e1 rfl h1 ⟨va, rfl, h4⟩ (fun b w => w.elim) fun r => ⟨_, rfl, r⟩).1⟩
/-- an own list is looked at by what gives no list -/
theorem ed_lendN {d : D} (i : Nat) {da : List D} (hi : ρ[i]? = some (.ow (.lst da))) (hz : noL d = true) (h : ED X (ρ.set i (.sh (.lst da))) e d) : ED X ρ e d := fun B0 B σ H0 H Q j kk => by
  obtain ⟨a, va, a0, j'⟩ := j.lendL hi
  refine h B0 B σ _ H Q j' fun v L0 L g r => ?_
  have la : L0 a = some (.lst va) := g.s0 _ _ upd_same
  refine kk v (er L0 a) L ⟨fun x u q => ?_, er_sub.trans g.sh, g.sB, fun x u q nt q' => ?_⟩ (er_dr la d v hz r)
  · have n1 : x ≠ a := fun z => by subst z; rw [a0] at q; cases q
    rw [er_ne n1]
    exact g.s0 _ _ (by rw [upd_ne n1]; exact q)
  · by_cases xa : x = a
    · subst xa; exact er_same
    · rw [er_ne xa]
      exact g.fr x u q nt (by rw [upd_ne xa]; exact q')
end
/-- a, b = x, y -/
theorem ws_par {X : Cx} {ρ : En} {pos : Pos} {Φ : Out → Prop} (i j : Nat) {x y : Str} {a b : Expr} {d1 d2 : D} {px py pt pt2 : Pos} {kt k2} (hc : X.calm = true) (hN : X.N.Nodup) (ha : AD X ρ [a, b] [d1, d2]) (hΦ : Φ (.nx ((ρ.set i (.sh d1)).set j (.sh d2)))) (hij : i ≠ j := by decide) (hi : X.N[i]? = some x := by rfl) (hj : X.N[j]? = some y := by rfl)
    (hx : X.env.scope.names.lookup x = some .local := by rfl) (hy : X.env.scope.names.lookup y = some .local := by rfl)
    (hw : swappedStores [.Tuple [.Name x px, .Name y py] kt pt] (.Tuple [a, b] k2 pt2) X.env = pure (some [x, y]) := by rfl)
    (hs : swapsWithSole [.Tuple [.Name x px, .Name y py] kt pt] (.Tuple [a, b] k2 pt2) pos.line X.env = pure false := by rfl) : WS X (.Assign [.Tuple [.Name x px, .Name y py] kt pt] (.Tuple [a, b] k2 pt2) pos) ρ Φ := fun B0 B σ H0 H Dn J k =>
  ⟨_, ps_par hc hN hi hj hij hx hy DL.pa_star hw hs, ha B0 B σ H0 H _ J fun vs G0 G g r => by
    obtain ⟨v, w, rfl, r1, r2⟩ := r.two
    exact ⟨v, w, rfl, k _ hΦ _ G0 G (((J.grow g).setSh r1).setSh r2)⟩⟩
/-! ### enumerate(list, start=k) -/
theorem callWith_type_kwB {M : Model} {A : Around} {E : Value → Shared → Prop} {s : Shared} {pos : Pos} {id : String} {first : List Value} {args : List (Bool × Sem Value)} {keywords : List (Option Str × Sem Value)} {Q : Value → Shared → Prop}
    (hplain : args.any (·.1) = false) (hkw : keywords.any (·.1.isNone) = false)
    (h : wpAny M A (evalArgs (.type id) true args keywords) (fun a s₁ => wpAny M A (call (.type id) (first ++ a.pos) a.kw) Q E s₁) E s) :
    wpAny M A (callWith pos (.type id) first args keywords) Q E s := by
  unfold callWith
  refine wpAny_bind (wpAny_holding (wpAny_mono h (fun a s₁ h₁ => wpAny_bind (wpAny_standAt ?_)) fun _ _ x => x))
  simp only [hplain, hkw, Bool.or_false]
  refine wpAny_bind (wpAny_pure ?_)
  exact wpAny_bind (wpAny_mono h₁ (fun r s₂ hr => wpAny_bind (wpAny_holding (wpAny_point (wpAny_pure hr)))) fun _ _ x => x)
/-- as Ite, counted from k -/
def IteS (K : PySem.W.Frag) (k : Nat) (a : Addr) : It :=
  ⟨fun i H => ∃ (xs : List V) (x : V), SqL K H a xs ∧ xs[i]? = some x, fun i H v H' => ∃ T x, v = .ref T ∧ H T = none ∧ H' = upd H T (.tup [.int ((k : Int) + (i : Int)), x]) ∧ ∀ xs, SqL K H a xs → xs[i]? = some x, fun i H => ∃ xs : List V, SqL K H a xs ∧ xs.length ≤ i⟩
theorem turn_enumS {P : Program} {w : World} {K : PySem.W.Frag} {elts : List Expr} {kk : Nat} {tpos : Pos} (k : Nat) (a e it : Addr) :
    Turn P w K (.Tuple elts kk tpos) (IteS K k a) [e, it] e (fun i h => (∃ old, IsEnum h e it ((k : Int) + (i : Int)) old) ∧ h.IsListIter it a i ∧ e ≠ it ∧ a ≠ it) where
  mem := by simp
  obj := fun i h st b hb => by
    obtain ⟨⟨old, he⟩, ⟨o, ho, hc, hd⟩, _⟩ := st
    have e' : b = e ∨ b = it := by simpa using hb
    rcases e' with z | z
    · rw [z]; exact ⟨_, he, fun v q => nomatch q⟩
    · rw [z]; exact ⟨o, ho, fun v q => by rw [hd] at q; cases q⟩
  keep := fun i h h' st k => let ⟨⟨old, he⟩, hi, hne⟩ := st; ⟨⟨old, k e (by simp) _ he⟩, hi.at fun o q => k it (by simp) o q, hne⟩
  item := by
    intro X hP hw hK hc i pins s σ H E I hf st hg
    subst hP hw hK
    obtain ⟨⟨old, he⟩, hit, hne, hna⟩ := st
    obtain ⟨xs, x, hq, hx⟩ := hg
    obtain ⟨its, rv, p, hz⟩ := I.list hq
    obtain ⟨u, hu, ru⟩ := rv.get hx
    have p' : s.heap.IsList a its.toArray := p.isList
    have hel : e < s.heap.objs.size := Heap.lt_size he
    have hil : it < s.heap.objs.size := by obtain ⟨_, q, _⟩ := hit; exact Heap.lt_size q
    have hea : e ≠ a := fun z => by
      subst z
      obtain ⟨o, q1, q2, _⟩ := p'
      rw [show s.heap.get? e = some _ from he] at q1
      cases q1
      exact absurd (Value.type.inj q2) (by decide)
    have hlt : i < its.toArray.size := by
      have := (List.getElem?_eq_some_iff.mp hu).1
      simpa using this
    refine wpAny_pyNext_enum_itemC (Draws.list (A := X.A.in1) (I.ok.hd hc) it a hna its.toArray) he ⟨hit, p'⟩ hlt hne (by simp [hne, hea]) fun y h' tk hy ho st' hT hsz hk => ?_
    have hyu : y = u := by
      have : its[i]? = some y := by simpa using hy
      rw [hu] at this
      exact (Option.some.inj this).symm
    subst hyu
    refine ⟨_, rfl, wpAny_letOwnedTupleGo_enum (s := { s with heap := h', toks := tk + 1 }) ho fun h'' he' sb => ?_⟩
    have hT2 : h''.get? s.heap.objs.size = some { cls := .type "tuple", data := .seq #[.int ((k : Int) + (i : Int)) tk, y] } := (sb.2 _ (Nat.ne_of_gt hel)).trans hT
    have new : ObjOk X.prog X.w (upd H s.heap.objs.size (.tup [.int ((k : Int) + (i : Int)), x])) h'' s.heap.objs.size (.tup [.int ((k : Int) + (i : Int)), x]) :=
      ⟨by show 2 ≤ sizeLine; decide, [.int ((k : Int) + (i : Int)) tk, y], .cons ⟨_, rfl⟩ (.cons ru .nil), ⟨_, hT2, rfl, _, rfl⟩⟩
    have I1 : Inv X pins σ (upd H s.heap.objs.size (.tup [.int ((k : Int) + (i : Int)), x])) { s with heap := h'', toks := tk + 1 } :=
      I.turnedNew (ch := [e, it]) (fun b ob hb q => (sb.2 b (fun z => hb (by simp [z]))).trans (hk b ob (fun z => hb (by simp [z])) (fun z => hb (by simp [z])) q)) hf (Nat.le_refl _) new
    refine ⟨.ref s.heap.objs.size, _, I1, rfl, ⟨_, x, rfl, I.hok.fresh (Nat.le_refl _), rfl, fun ys hy => by rw [I.list_inj hy hq]; exact hx⟩, ⟨⟨y, ?_⟩, st'.1.at fun o q => (sb.2 it (Ne.symm hne)).trans q, hne, hna⟩, fun b hb => ?_⟩
    · have e1 : (k : Int) + ((i + 1 : Nat) : Int) = (k : Int) + (i : Int) + 1 := by omega
      rw [e1]; exact he'
    · have hb' : b < s.heap.objs.size := by
        have e' : b = e ∨ b = it := by simpa using hb
        rcases e' with z | z
        · rw [z]; exact hel
        · rw [z]; exact hil
      rw [upd_ne (Nat.ne_of_lt hb')]
      exact (hf b hb).1
  done := by
    intro X hP hw hK hc i pins s σ H E I hf st hg
    subst hP hw hK
    obtain ⟨⟨old, he⟩, hit, hne, hna⟩ := st
    obtain ⟨xs, hq, hx⟩ := hg
    obtain ⟨its, rv, p, hz⟩ := I.list hq
    have p' : s.heap.IsList a its.toArray := p.isList
    obtain ⟨f0, f1, f2, f3, f4, f5⟩ := hf it (by simp)
    have hl := rv.length
    have hT : s.TypeIs (.ref e) "enumerate" := ⟨_, he, rfl⟩
    refine (?_ : wpAny _ _ _ _ _ s)
    unfold pyNext
    refine wpAny_bind (wpAny_attempt (wpAny_callSpecial?_slot (name := Str.ofString "__next__") hT F.slot_enumerate_next
      (wpAny_call_entry F.slot_enumerate_next hT F.entry_enumerate_next ?_ (F.args_enumerate_next_1 _))))
    show wpAny _ _ (field (.ref e) 2 >>= _) _ _ _
    refine wpAny_bind (wpAny_field he rfl (x := .ref it) rfl ?_)
    refine wpAny_bind (wpAny_nextOf_list_end (A := X.A.in1) (I.ok.hd hc) hit p' (by simp; omega) fun h' x he' hx' => ?_)
    obtain ⟨o, ho, hc⟩ := hx'
    refine wpAny_bind (wpAny_isInstance (T := "StopIteration") (b := true) ⟨o, ho, hc⟩ isSubtype_stop ?_)
    exact wpAny_pure ⟨rfl, I.turned (t' := s.toks) (fun b o hb q => he' b o hb q) f0 f1 f3 f4 f5⟩
  self := fun A i s Q E st h => let ⟨⟨_, he⟩, _⟩ := st; wpAny_pyIter_enum he h
/-- enumerate(e, start=k) -/
def iEnumS (K : PySem.W.Frag) (k : Nat) (ta : TA) : TI := fun σ H R => ta σ H fun vs H1 => ∃ a xs, vs = [.ref a] ∧ SqL K H1 a xs ∧ R (IteS K k a) H1
theorem pi_enumS {X : Cx} {e : Expr} {ta : TA} {k : Nat} {kc : Nat} {p x0 x1 pos tpos : Pos} {elts : List Expr} {kk : Nat} (hg : Gl X "enumerate") (hm : X.mg "enumerate" = none) (ha : PA X [e] ta) (hk : k < 1000)
    (h1' : backTo pos (starEach [e] X.env) = (false, eval e X.env) :: backTo pos (starEach [] X.env) := by rfl) (h2 : (backTo pos (starEach [e] X.env)).any (·.1) = false := by rfl)
    (h3 : (backToKw pos (keywordEach [⟨some "start", .Constant (.int (k : Int)) kc x0, x1⟩] X.env)).all (·.1.isSome) = true := by rfl) (h4 : (backToKw pos (keywordEach [⟨some "start", .Constant (.int (k : Int)) kc x0, x1⟩] X.env)).any (·.1.isNone) = false := by rfl) (h5 : (backToKw pos (keywordEach [⟨some "start", .Constant (.int (k : Int)) kc x0, x1⟩] X.env)).filterMap (·.1) = [("start" : Str)] := by rfl) :
    PI X (.Tuple elts kk tpos) (.Call (.Name "enumerate" p) [e] [⟨some "start", .Constant (.int (k : Int)) kc x0, x1⟩] pos) (iEnumS X.K k ta) := by
  refine ⟨fun pins s σ H R I h => ?_⟩
  refine wpAny_Call_Name_kw (ld_blt I hg hm boot_enumerate ?_)
  refine callWith_type_kwB h2 h4 ?_
  rw [h1']
  refine evalArgs_kwB h3 ?_
  have hh := ha.run pos pins s σ H _ I h
  rw [h1'] at hh
  refine thn hh fun us s1 ⟨vs, H1, I1, r1, q1⟩ => ?_
  refine thn ((pk_cons (nm := some "start") (pe_int (i := (k : Int)) (j := kc)) pk_nil).run pos pins s1 σ H1 (fun ws H2 => ws = [.int (k : Int)] ∧ H2 = H1) I1 ⟨rfl, rfl⟩) fun ws s2 ⟨zs, H2, I2, r2, q2⟩ => ?_
  obtain ⟨rfl, rfl⟩ := q2
  rw [h5]
  obtain ⟨a, xs, ex, hq, q⟩ := q1
  subst ex
  cases r1 with
  | cons r rr =>
    cases rr
    cases r
    cases r2 with
    | cons t tt =>
      cases tt
      obtain ⟨tz, rfl⟩ := t
      obtain ⟨its, rv, p', hz⟩ := I2.list hq
      have p2 : s2.heap.IsList a its.toArray := p'.isList
      have hlt : a < s2.heap.objs.size := by obtain ⟨_, q, _⟩ := p2; exact Heap.lt_size q
      refine enum_begins_start (begins_list a its.toArray) p2 (by omega) (by omega) fun h' he hit hsz hk => wpAny_pyIter_enum he ?_
      have I3 : Inv X pins σ H2 { s2 with heap := h' } := I2.kept (t' := s2.toks) hk
      refine ⟨s2.heap.objs.size + 1, [s2.heap.objs.size + 1, s2.heap.objs.size], _, _, H2, rfl, I3, turn_enumS k a (s2.heap.objs.size + 1) s2.heap.objs.size, ⟨⟨.none, by simpa using he⟩, ⟨_, hit, rfl, rfl⟩, Nat.succ_ne_self _, Nat.ne_of_lt hlt⟩, fun b hb => ?_, q⟩
      have e' : b = s2.heap.objs.size + 1 ∨ b = s2.heap.objs.size := by simpa using hb
      have hle : s2.heap.objs.size ≤ b := by
        rcases e' with z | z
        · rw [z]; exact Nat.le_add_right _ _
        · rw [z]; exact Nat.le_refl _
      exact I2.fpOk hle (I2.hok.fresh hle)
theorem walk_enumS {K : PySem.W.Frag} {k : Nat} {a : Addr} {xs : List V} : Walk (IteS K k a) xs.length (fun H => SqL K H a xs) (YPair (fun i => some (.int ((k : Int) + (i : Int)))) (fun i => xs[i]?)) := by
  refine ⟨fun i _ hi q => ⟨xs, xs[i], q, by simp [hi]⟩, fun _ q => ⟨xs, q, Nat.le_refl _⟩, fun i H v H' _ q y => ?_⟩
  obtain ⟨T, x, h1, h2, h3, h4⟩ := y
  exact ⟨T, .int ((k : Int) + (i : Int)), x, h1, h2, h3, rfl, h4 xs q⟩
/-- numbered from k -/
def enumK (k : Nat) (ds : List D) : List D := (List.range ds.length).zipWith (fun (i : Nat) d => D.tup [.int ((k : Int) + (i : Int)), d]) ds
theorem enumK_len (k : Nat) (ds : List D) : (enumK k ds).length = ds.length := by simp [enumK]
theorem enumK_get {k : Nat} {ds : List D} {i : Nat} {d : D} (h : (enumK k ds)[i]? = some d) : ∃ d', ds[i]? = some d' ∧ d = .tup [.int ((k : Int) + (i : Int)), d'] := by
  have hi : i < ds.length := by have := (List.getElem?_eq_some_iff.mp h).1; rwa [enumK_len] at this
  refine ⟨ds[i], by simp [hi], ?_⟩
  unfold enumK at h
  rw [List.getElem?_zipWith, List.getElem?_range hi, List.getElem?_eq_getElem hi] at h
  exact (Option.some.inj h).symm
theorem id_enumS {X : Cx} {ρ : En} {a : Expr} {k kc : Nat} {pos x0 x1 : Pos} {ds : List D} {elts : List Expr} {kk : Nat} {tpos p : Pos} (hg : Gl X "enumerate") (hm : X.mg "enumerate" = none) (ha : ED X ρ a (.lst ds)) (hk : k < 1000 := by decide) (hs2 : starEach [a] X.env = (false, eval a X.env) :: starEach [] X.env := by rfl)
    (h1' : backTo pos (starEach [a] X.env) = (false, eval a X.env) :: backTo pos (starEach [] X.env) := by rfl) (h2 : (backTo pos (starEach [a] X.env)).any (·.1) = false := by rfl)
    (h3 : (backToKw pos (keywordEach [⟨some "start", .Constant (.int (k : Int)) kc x0, x1⟩] X.env)).all (·.1.isSome) = true := by rfl) (h4 : (backToKw pos (keywordEach [⟨some "start", .Constant (.int (k : Int)) kc x0, x1⟩] X.env)).any (·.1.isNone) = false := by rfl) (h5 : (backToKw pos (keywordEach [⟨some "start", .Constant (.int (k : Int)) kc x0, x1⟩] X.env)).filterMap (·.1) = [("start" : Str)] := by rfl) :
    ID X ρ (.Tuple elts kk tpos) (.Call (.Name "enumerate" p) [a] [⟨some "start", .Constant (.int (k : Int)) kc x0, x1⟩] pos) (enumK k ds) := fun B0 B σ H0 H R j kq =>
  ⟨_, pi_enumS hg hm DL.pa_star hk h1' h2 h3 h4 h5, ad_cons (X := X) ha ad_nil hs2 B0 B σ H0 H _ j fun vs G0 G g r => by
    obtain ⟨x, rfl, q, ys, rfl, h1, h2⟩ := r.one'
    refine ⟨q, ys, rfl, g.sh.seq h1, kq _ G0 G g (dw_pair (f := fun _ => none) (g := fun _ => none) walk_enumS (by rw [enumK_len, DRs.length h2]) (fun H1 H s1 s2 => (s1.trans s2).seq h1) fun i d hd => ?_)⟩
    obtain ⟨d', e1, rfl⟩ := enumK_get hd
    obtain ⟨v, e2, e3⟩ := DRs.get h2 e1
    refine ⟨_, _, rfl, fun v hv => ?_, fun v' hv => ?_⟩
    · cases hv; rfl
    · rw [e2] at hv; cases hv; exact e3⟩
theorem cutDrop (l : List D) {k : Int} (h : 0 ≤ k) : cutD l (some k) none = l.drop k.toNat := by
  unfold cutD
  show (l.drop (HT.sIx l.length 0 (some k))).take (l.length - HT.sIx l.length 0 (some k)) = _
  have e : HT.sIx l.length 0 (some k) = min k.toNat l.length := by
    unfold HT.sIx; simp only; split <;> omega
  rw [e, List.take_of_length_le (by rw [List.length_drop]; exact Nat.le_refl _)]
  by_cases hk : k.toNat ≤ l.length
  · rw [Nat.min_eq_left hk]
  · rw [Nat.min_eq_right (by omega), List.drop_eq_nil_of_le (Nat.le_refl _), List.drop_eq_nil_of_le (by omega)]
end DL

/-! Circuits whose nets are numbered anew. -/
namespace DL
open PySem PySem.Spec PyProof.Rows L2
/-! ### what _law_like asks -/
def LfD (d : D) : Prop := (∃ i, d = .int i) ∨ ∃ z, d = .str z
def L2D (d : D) : Prop := ∃ es, d = .tup es ∧ es.length ≤ 1000 ∧ ∀ e ∈ es, LfD e
theorem nm_l2 {N : List Nm} : ∀ d ∈ N.map nmE, L2D d := fun d hd => by
  obtain ⟨q, _, rfl⟩ := List.mem_map.mp hd
  refine ⟨_, rfl, by simp, fun e he => ?_⟩
  simp only [List.mem_cons, List.not_mem_nil, or_false] at he
  rcases he with rfl | rfl
  · exact .inl ⟨_, rfl⟩
  · exact .inr ⟨_, rfl⟩
theorem dev_l2 {V : List Dev} : ∀ d ∈ V.map Dev.e, L2D d := fun d hd => by
  obtain ⟨v, _, rfl⟩ := List.mem_map.mp hd
  refine ⟨_, rfl, by simp, fun e he => ?_⟩
  simp only [List.mem_cons, List.not_mem_nil, or_false] at he
  rcases he with rfl | rfl | rfl | rfl | rfl | rfl
  · exact .inr ⟨_, rfl⟩
  all_goals exact .inl ⟨_, rfl⟩
/-! ### numbers handed to with_nets -/
inductive NumD : D → (Int → Int) → (Int → Prop) → Prop where
  | dic (ks : List Int) (nd : ks.Nodup) : NumD (.dk (ks.map Sum.inl) ((List.range ks.length).map fun (i : Nat) => .int (i : Int))) (fun i => (ks.idxOf i : Nat)) (fun i => i ∈ ks)
  | lst (ns : List Int) : NumD (.lst (ns.map .int)) (fun i => ns.getD i.toNat 0) (fun i => 0 ≤ i ∧ i < ns.length)
theorem nodup_map_inl {ks : List Int} (h : ks.Nodup) : (ks.map (Sum.inl : Int → Key)).Nodup := List.Pairwise.map _ (fun a b hab e => hab (Sum.inl.inj e)) h
theorem ed_num {X : Cx} {ρ : En} {a b : Expr} {pos : Pos} {d : D} {f : Int → Int} {P : Int → Prop} {i : Int} (hu : X.A.units + 64 < cLine) (h : NumD d f P) (ha : ED X ρ a d) (hb : ED X ρ b (.int i)) (hp : P i) (hs : NoSl b := by exact fun _ _ => rfl) (hs2 : PlainIx b := by exact fun _ _ => rfl) : ED X ρ (.Subscript a b pos) (.int (f i)) := by
  cases h with
  | dic ks nd =>
    have hlt := List.idxOf_lt_length_iff.mpr (show i ∈ ks from hp)
    exact ed_dgetI (kd := .int i) (k0 := Sum.inl i) (m := ks.idxOf i) hu ha hb (fun _ _ _ h => h) (nodup_map_inl nd) (by rw [List.getElem?_map, List.getElem?_eq_getElem hlt, List.getElem_idxOf hlt]; rfl) (by rw [List.getElem?_map, List.getElem?_range hlt]; rfl) hs
  | lst ns =>
    obtain ⟨h0, h1⟩ := hp
    refine ed_ix ha hb (.l (atI_nn h0 ?_)) hs2
    have : i.toNat < ns.length := by omega
    have e : ns.getD i.toNat 0 = ns[i.toNat] := by rw [List.getD_eq_getElem?_getD, List.getElem?_eq_getElem this]; rfl
    rw [List.getElem?_map, List.getElem?_eq_getElem this]
    show some (D.int ns[i.toNat]) = some (D.int (ns.getD i.toNat 0))
    rw [e]
/-! ### nets numbered anew -/
def mvN (f : Int → Int) (q : Nm) : Nm := (f q.1, q.2)
def mvD (f : Int → Int) (v : Dev) : Dev := ⟨v.k, f v.g, min (f v.a) (f v.b), max (f v.a) (f v.b), v.w, v.l⟩
def rwD (f : Int → Int) (v : Dev) : Dev := ⟨v.k, f v.g, f v.a, f v.b, v.w, v.l⟩
/-- the nets that names and devices speak of -/
def usedL (N : List Nm) (V : List Dev) : List Int := N.map (·.1) ++ V.flatMap fun v => [v.g, v.a, v.b]
theorem mem_used {N : List Nm} {V : List Dev} {i : Int} : i ∈ usedL N V ↔ (∃ q ∈ N, q.1 = i) ∨ ∃ v ∈ V, i = v.g ∨ i = v.a ∨ i = v.b := by
  unfold usedL
  simp only [List.mem_append, List.mem_map, List.mem_flatMap, List.mem_cons, List.not_mem_nil, or_false]
theorem asc_nodup {ks : List Int} (h : Asc ks) : ks.Nodup := h.imp fun h e => by omega
theorem asc_idx {ks : List Int} (h : Asc ks) {i j : Int} (hi : i ∈ ks) (hj : j ∈ ks) (hij : i ≤ j) : ks.idxOf i ≤ ks.idxOf j := by
  have li := List.idxOf_lt_length_iff.mpr hi
  have lj := List.idxOf_lt_length_iff.mpr hj
  refine Nat.le_of_not_lt fun hlt => ?_
  have := List.pairwise_iff_getElem.mp h _ _ lj li hlt
  rw [List.getElem_idxOf, List.getElem_idxOf] at this
  omega
theorem idx_inj {ks : List Int} {i j : Int} (hi : i ∈ ks) (hj : j ∈ ks) (e : ks.idxOf i = ks.idxOf j) : i = j := by
  have li := List.idxOf_lt_length_iff.mpr hi
  have lj := List.idxOf_lt_length_iff.mpr hj
  rw [← List.getElem_idxOf li, ← List.getElem_idxOf lj]
  congr 1
/-- a numbering that keeps the order on what is used -/
structure Num (f : Int → Int) (m : Int) (N : List Nm) (V : List Dev) : Prop where
  lo : ∀ i ∈ usedL N V, 0 ≤ f i ∧ f i < m
  inj : ∀ i ∈ N.map (·.1), ∀ j ∈ N.map (·.1), f i = f j → i = j
theorem nodup_map_on {α β : Type} {f : α → β} : ∀ {l : List α}, (∀ a ∈ l, ∀ b ∈ l, f a = f b → a = b) → l.Nodup → (l.map f).Nodup
  | [], _, _ => List.nodup_nil
  | x :: l, h, nd => by
    rw [List.map_cons, List.nodup_cons]
    rw [List.nodup_cons] at nd
    refine ⟨fun hm => ?_, nodup_map_on (fun a ha b hb => h a (by simp [ha]) b (by simp [hb])) nd.2⟩
    obtain ⟨y, hy, e⟩ := List.mem_map.mp hm
    exact nd.1 (h y (by simp [hy]) x (by simp) e ▸ hy)
theorem num_ok {f : Int → Int} {n m : Int} {N : List Nm} {V : List Dev} (h : Num f m N V) (ok : CirOk n N V) (hm : 0 ≤ m ∧ m ≤ 200) : CirOk m (N.map (mvN f)) (V.map (mvD f)) := by
  refine ⟨hm, fun q hq => ?_, ?_, ?_, by rw [List.length_map]; exact ok.nl, by rw [List.length_map]; exact ok.vl, fun v hv => ?_⟩
  · obtain ⟨p, hp, rfl⟩ := List.mem_map.mp hq
    exact ⟨h.lo p.1 (mem_used.mpr (.inl ⟨p, hp, rfl⟩)), (ok.nm p hp).2⟩
  · have e : (N.map (mvN f)).map (·.1) = (N.map (·.1)).map f := by rw [List.map_map, List.map_map]; rfl
    rw [e]
    exact nodup_map_on h.inj ok.d1
  · have e : (N.map (mvN f)).map (·.2) = N.map (·.2) := by rw [List.map_map]; rfl
    rw [e]
    exact ok.d2
  · obtain ⟨w, hw, rfl⟩ := List.mem_map.mp hv
    have d := ok.dv w hw
    have hg := h.lo w.g (mem_used.mpr (.inr ⟨w, hw, .inl rfl⟩))
    have ha := h.lo w.a (mem_used.mpr (.inr ⟨w, hw, .inr (.inl rfl)⟩))
    have hb := h.lo w.b (mem_used.mpr (.inr ⟨w, hw, .inr (.inr rfl)⟩))
    refine ⟨d.k, hg, ?_, d.w, d.l⟩
    unfold mvD
    simp only
    omega
theorem cir_perm {n : Int} {N M : List Nm} {V : List Dev} (p : M.Perm N) (h : (N.map (·.1)).Nodup) : cirD n M V = cirD n N V := by
  show D.obj _ _ (cirV n M V) = D.obj _ _ (cirV n N V)
  unfold cirV
  rw [srtN_eq p h]
/-! ### only the nets that are used -/
def keptL (N : List Nm) (V : List Dev) : List Int := srtU (usedL N V)
def rk (ks : List Int) (i : Int) : Int := (ks.idxOf i : Nat)
theorem kept_num {n : Int} {N : List Nm} {V : List Dev} : Num (rk (keptL N V)) ((keptL N V).length : Nat) N V := by
  refine ⟨fun i hi => ?_, fun i hi j hj e => ?_⟩
  · have := List.idxOf_lt_length_iff.mpr (mem_srtU.mpr hi)
    show (0 : Int) ≤ ((keptL N V).idxOf i : Nat) ∧ (((keptL N V).idxOf i : Nat) : Int) < _
    have h2 : (keptL N V).idxOf i < (keptL N V).length := this
    omega
  · have hu : ∀ x ∈ N.map (·.1), x ∈ keptL N V := fun x hx => mem_srtU.mpr (List.mem_append.mpr (.inl hx))
    refine idx_inj (hu i hi) (hu j hj) ?_
    have : (((keptL N V).idxOf i : Nat) : Int) = ((keptL N V).idxOf j : Nat) := e
    omega
theorem asc_len {m : Nat} : ∀ {ks : List Int}, Asc ks → (∀ i ∈ ks, 0 ≤ i ∧ i < (m : Int)) → ks.length ≤ m := fun {ks} h hb => by
  have nd := asc_nodup h
  have hs : ks ⊆ (List.range m).map (fun (i : Nat) => (i : Int)) := fun i hi => by
    have := hb i hi
    exact List.mem_map.mpr ⟨i.toNat, List.mem_range.mpr (by omega), by omega⟩
  have := nd.length_le_of_subset hs
  rwa [List.length_map, List.length_range] at this
theorem kept_len {n : Int} {N : List Nm} {V : List Dev} (ok : CirOk n N V) : (((keptL N V).length : Nat) : Int) ≤ n := by
  have hb : ∀ i ∈ keptL N V, 0 ≤ i ∧ i < ((n.toNat : Nat) : Int) := fun i hi => by
    have := ok.nn
    rcases mem_used.mp (mem_srtU.mp hi) with ⟨q, hq, rfl⟩ | ⟨v, hv, e⟩
    · have := (ok.nm q hq).1; omega
    · have d := ok.dv v hv
      have := d.g; have := d.e
      rcases e with rfl | rfl | rfl <;> omega
  have h3 : (keptL N V).length ≤ n.toNat := asc_len (m := n.toNat) (asc_srtU _) hb
  have := ok.nn
  omega
theorem kept_ok {n : Int} {N : List Nm} {V : List Dev} (ok : CirOk n N V) : CirOk ((keptL N V).length : Nat) (N.map (mvN (rk (keptL N V)))) (V.map (mvD (rk (keptL N V)))) :=
  num_ok (kept_num (n := n)) ok (by have := kept_len ok; have := ok.nn; omega)
theorem mv_rw {n : Int} {N : List Nm} {V : List Dev} (ok : CirOk n N V) : V.map (mvD (rk (keptL N V))) = V.map (rwD (rk (keptL N V))) := by
  refine List.map_congr_left fun v hv => ?_
  have d := (ok.dv v hv).e
  have ma : v.a ∈ keptL N V := mem_srtU.mpr (mem_used.mpr (.inr ⟨v, hv, .inr (.inl rfl)⟩))
  have mb : v.b ∈ keptL N V := mem_srtU.mpr (mem_used.mpr (.inr ⟨v, hv, .inr (.inr rfl)⟩))
  have h : rk (keptL N V) v.a ≤ rk (keptL N V) v.b := by
    have := asc_idx (asc_srtU _) ma mb d.2.1
    show (((keptL N V).idxOf v.a : Nat) : Int) ≤ ((keptL N V).idxOf v.b : Nat)
    have h2 : (keptL N V).idxOf v.a ≤ (keptL N V).idxOf v.b := this
    omega
  unfold mvD rwD
  rw [Int.min_eq_left h, Int.max_eq_right h]
theorem usedL_map (f : Int → Int) (N : List Nm) (V : List Dev) : usedL (N.map (mvN f)) (V.map (rwD f)) = (usedL N V).map f := by
  unfold usedL
  rw [List.map_append, List.map_map, List.map_map, List.flatMap_map, List.map_flatMap]
  rfl
theorem kept_again (N : List Nm) (V : List Dev) : keptL (N.map (mvN (rk (keptL N V)))) (V.map (rwD (rk (keptL N V)))) = (List.range (keptL N V).length).map fun (i : Nat) => (i : Int) := by
  refine asc_ext (asc_srtU _) ?_ fun y => ?_
  · refine List.pairwise_map.mpr (List.Pairwise.imp (fun h => ?_) List.pairwise_lt_range)
    omega
  · unfold keptL at *
    rw [mem_srtU, usedL_map, List.mem_map, List.mem_map]
    constructor
    · rintro ⟨i, hi, rfl⟩
      have := List.idxOf_lt_length_iff.mpr (mem_srtU.mpr hi)
      exact ⟨_, List.mem_range.mpr this, rfl⟩
    · rintro ⟨j, hj, rfl⟩
      have hj := List.mem_range.mp hj
      refine ⟨(srtU (usedL N V))[j], mem_srtU.mp (List.getElem_mem hj), ?_⟩
      show (((srtU (usedL N V)).idxOf (srtU (usedL N V))[j] : Nat) : Int) = (j : Int)
      rw [(asc_nodup (asc_srtU _)).idxOf_getElem]
theorem rk_range {m : Nat} {i : Int} (h : 0 ≤ i ∧ i < (m : Int)) : rk ((List.range m).map fun (i : Nat) => (i : Int)) i = i := by
  have nd : ((List.range m).map fun (i : Nat) => (i : Int)).Nodup := List.Pairwise.map _ (fun a b hab e => hab (by omega)) List.nodup_range
  have hl : i.toNat < ((List.range m).map fun (i : Nat) => (i : Int)).length := by rw [List.length_map, List.length_range]; omega
  have e : ((List.range m).map fun (i : Nat) => (i : Int))[i.toNat] = i := by rw [List.getElem_map, List.getElem_range]; omega
  have := nd.idxOf_getElem i.toNat hl
  rw [e] at this
  show (((List.map (fun (i : Nat) => (i : Int)) (List.range m)).idxOf i : Nat) : Int) = i
  rw [this]
  omega
theorem kept_fix {n : Int} {N : List Nm} {V : List Dev} (ok : CirOk n N V) :
    let M := N.map (mvN (rk (keptL N V))); let W := V.map (rwD (rk (keptL N V)))
    (keptL M W).length = (keptL N V).length ∧ M.map (mvN (rk (keptL M W))) = M ∧ W.map (mvD (rk (keptL M W))) = W := by
  intro M W
  have h0 := kept_ok ok
  rw [mv_rw ok] at h0
  have e := kept_again N V
  refine ⟨by rw [show keptL M W = _ from e, List.length_map, List.length_range], ?_, ?_⟩
  · rw [show keptL M W = _ from e]
    conv => rhs; rw [← List.map_id M]
    refine List.map_congr_left fun q hq => ?_
    unfold mvN
    rw [rk_range (h0.nm q hq).1]
    rfl
  · rw [mv_rw h0, show keptL M W = _ from e]
    conv => rhs; rw [← List.map_id W]
    refine List.map_congr_left fun v hv => ?_
    have d := h0.dv v hv
    unfold rwD
    rw [rk_range d.g, rk_range ⟨d.e.1, by have := d.e; omega⟩, rk_range ⟨by have := d.e; omega, d.e.2.2⟩]
    rfl
theorem CirOk.perm {n : Int} {N M : List Nm} {V : List Dev} (ok : CirOk n N V) (p : M.Perm N) : CirOk n M V :=
  ⟨ok.nn, fun q hq => ok.nm q (p.mem_iff.mp hq), (p.map _).nodup_iff.mpr ok.d1, (p.map _).nodup_iff.mpr ok.d2, by rw [p.length_eq]; exact ok.nl, ok.vl, ok.dv⟩
noncomputable def usedI (N : List Nm) (V : List Dev) (i : Nat) : List Int := (srtN N).map (·.1) ++ (V.take i).flatMap fun v => [v.g, v.a, v.b]
noncomputable def usedS (N : List Nm) (V : List Dev) : List Int := usedI N V V.length
theorem usedI_0 (N : List Nm) (V : List Dev) : usedI N V 0 = (srtN N).map (·.1) := by unfold usedI; simp
theorem usedI_succ {N : List Nm} {V : List Dev} {i : Nat} {v : Dev} (h : V[i]? = some v) : usedI N V (i + 1) = usedI N V i ++ [v.g, v.a, v.b] := by
  unfold usedI
  rw [List.take_add_one, h, List.flatMap_append, List.append_assoc]
  rfl
theorem flat3_len : ∀ (V : List Dev), (V.flatMap fun v => [v.g, v.a, v.b]).length = 3 * V.length
  | [] => rfl
  | v :: V => by rw [List.flatMap_cons, List.length_append, flat3_len V]; simp only [List.length_cons, List.length_nil]; omega
theorem used_len (N : List Nm) (V : List Dev) (i : Nat) : (usedI N V i).length ≤ N.length + 3 * V.length := by
  unfold usedI
  rw [List.length_append, List.length_map, srtN_len, flat3_len, List.length_take]
  omega
theorem usedS_len (N : List Nm) (V : List Dev) : (usedS N V).length ≤ N.length + 3 * V.length := used_len N V _
theorem usedS_srt (N : List Nm) (V : List Dev) : srtU (usedS N V) = keptL N V := by
  refine asc_ext (asc_srtU _) (asc_srtU _) fun y => ?_
  rw [mem_srtU, show (y ∈ keptL N V ↔ y ∈ usedL N V) from mem_srtU]
  unfold usedS usedI usedL
  rw [List.take_length, List.mem_append, List.mem_append, ((srtN_perm N).map (·.1)).mem_iff]
theorem kept_enum (ks : List Int) : enumD (ks.map D.int) = (List.range ks.length).map (fun (i : Nat) => D.tup [.int (i : Int), .int (ks.getD i 0)]) := by
  refine List.ext_getElem? fun i => ?_
  by_cases hi : i < ks.length
  · have h1 : (enumD (ks.map D.int))[i]? = some (D.tup [.int (i : Nat), .int ks[i]]) := by
      unfold enumD
      rw [List.getElem?_zipWith, List.length_map, List.getElem?_range hi, List.getElem?_map, List.getElem?_eq_getElem hi]
      rfl
    rw [h1, List.getElem?_map, List.getElem?_range hi]
    have e : ks.getD i 0 = ks[i] := by rw [List.getD_eq_getElem?_getD, List.getElem?_eq_getElem hi]; rfl
    show _ = some (D.tup [.int (i : Int), .int (ks.getD i 0)])
    rw [e]
  · rw [List.getElem?_eq_none (by rw [enum_len, List.length_map]; omega), List.getElem?_eq_none (by rw [List.length_map, List.length_range]; omega)]
theorem kept_getD (ks : List Int) : (List.range ks.length).map (fun i => ks.getD i 0) = ks := by
  refine List.ext_getElem? fun i => ?_
  by_cases hi : i < ks.length
  · rw [List.getElem?_map, List.getElem?_range hi, List.getElem?_eq_getElem hi]
    show some (ks.getD i 0) = _
    rw [List.getD_eq_getElem?_getD, List.getElem?_eq_getElem hi]; rfl
  · rw [List.getElem?_eq_none (by rw [List.length_map, List.length_range]; omega), List.getElem?_eq_none (by omega)]
theorem kept_map (ks : List Int) : (List.range ks.length).map (fun i => (Sum.inl (ks.getD i 0) : Key)) = ks.map Sum.inl := by
  have h := congrArg (List.map (Sum.inl : Int → Key)) (kept_getD ks)
  rw [List.map_map] at h
  exact h
theorem kept_keys (N : List Nm) {V : List Dev} : ((List.range (keptL N V).length).map (fun i => (Sum.inl ((keptL N V).getD i 0) : Key))).Nodup := by
  rw [kept_map]
  exact nodup_map_inl (asc_nodup (asc_srtU _))
theorem kept_dic (ks : List Int) (nd : ks.Nodup) : NumD (.dk ((List.range ks.length).map (fun i => (Sum.inl (ks.getD i 0) : Key))) ((List.range ks.length).map fun (i : Nat) => .int (i : Int))) (rk ks) (fun i => i ∈ ks) := by
  rw [kept_map]
  exact .dic ks nd
theorem CirOk.filter {n : Int} {N : List Nm} {V : List Dev} (ok : CirOk n N V) (p : Nm → Bool) : CirOk n (N.filter p) V :=
  ⟨ok.nn, fun q hq => ok.nm q (List.mem_filter.mp hq).1, ok.d1.sublist (List.Sublist.map _ List.filter_sublist), ok.d2.sublist (List.Sublist.map _ List.filter_sublist), Nat.le_trans (List.length_filter_le _ _) ok.nl, ok.vl, ok.dv⟩
def useW (N : List Nm) (V : List Dev) (i : Nat) : List Int := N.map (·.1) ++ (V.take i).flatMap fun v => [v.g, v.a, v.b]
theorem useW_0 (N : List Nm) (V : List Dev) : useW N V 0 = N.map (·.1) := by unfold useW; simp
theorem useW_all (N : List Nm) (V : List Dev) : useW N V V.length = usedL N V := by unfold useW usedL; rw [List.take_length]
theorem useW_succ {N : List Nm} {V : List Dev} {i : Nat} {v : Dev} (h : V[i]? = some v) : useW N V (i + 1) = useW N V i ++ [v.g, v.a, v.b] := by
  unfold useW
  rw [List.take_add_one, h, List.flatMap_append, List.append_assoc]
  rfl
theorem useW_len (N : List Nm) (V : List Dev) (i : Nat) : (useW N V i).length ≤ N.length + 3 * V.length := by
  unfold useW
  rw [List.length_append, List.length_map, flat3_len, List.length_take]
  omega
theorem left_eq {n : Int} {N : List Nm} {V : List Dev} (ok : CirOk n N V) : ((List.range n.toNat).filter fun (i : Nat) => decide ((i : Int) ∈ usedL N V)).map (fun (i : Nat) => D.int (i : Int)) = (keptL N V).map D.int := by
  have e : ((List.range n.toNat).filter fun (i : Nat) => decide ((i : Int) ∈ usedL N V)).map (fun (i : Nat) => (i : Int)) = keptL N V := by
    refine asc_ext (List.pairwise_map.mpr (List.Pairwise.imp (fun h => ?_) (List.Pairwise.filter _ List.pairwise_lt_range))) (asc_srtU _) fun y => ?_
    · omega
    · rw [show (y ∈ keptL N V ↔ y ∈ usedL N V) from mem_srtU, List.mem_map]
      constructor
      · rintro ⟨i, hi, rfl⟩
        exact of_decide_eq_true (List.mem_filter.mp hi).2
      · intro hy
        have hb : 0 ≤ y ∧ y < n := by
          rcases mem_used.mp hy with ⟨q, hq, rfl⟩ | ⟨v, hv, e⟩
          · exact (ok.nm q hq).1
          · have d := ok.dv v hv
            have := d.g; have := d.e
            rcases e with rfl | rfl | rfl <;> omega
        refine ⟨y.toNat, List.mem_filter.mpr ⟨List.mem_range.mpr (by omega), decide_eq_true ?_⟩, by omega⟩
        rwa [show ((y.toNat : Nat) : Int) = y by omega]
  have h := congrArg (List.map D.int) e
  rw [List.map_map] at h
  exact h
end DL

/-! enumerate(tuple). -/
namespace DL
open PySem PySem.Spec PyProof.Rows L2
open AutoSeq1 (wpAny_loadPart')
theorem meets_enumerate_newT (l : Addr) (items : Array Value) (n : Nat) (dct : Option Addr) (sl : Array (Option Value)) :
    Meets (Builtin.«enumerate.__new__» ⟨[.type "enumerate", .ref l], []⟩) (fun _ R s => s.heap.get? l = some { cls := .type "tuple", dict := dct, data := .seq items n, slots := sl } ∧
      R (.ok (.ret (.ref (s.heap.push { cls := .type "tuple_iterator", data := .fields #[.ref l, .int 0 0] }).objs.size)))
        { s with heap := (s.heap.push { cls := .type "tuple_iterator", data := .fields #[.ref l, .int 0 0] }).push { cls := .type "enumerate", data := .fields #[.none, .bool false, .ref s.heap.objs.size, rawInt 0, .none, .none] } }) :=
  .of_wp fun prog w A R s h => by
    obtain ⟨hp, g, d, tk, os⟩ := s; obtain ⟨hl, h⟩ := h
    have hsub := sub_enumerate
    have hL : Heap.IsTuple (Shared.heap ⟨hp, g, d, tk, os⟩) l items := ⟨_, hl, rfl, n, rfl⟩
    wp_walk using wpAny_loadPart' hl
    refine wpAny_stack_any fun st => wpAny_pure ?_
    split
    · rename_i c _ _ _ _ _
      cases (c == Value.type "enumerate")
      · wp_walk using wpAny_loadPart' hl, wpAny_pyIter_tuple hL
        exact ⟨_, rfl, h⟩
      · wp_walk using wpAny_loadPart' hl, wpAny_pyIter_tuple hL
        exact ⟨_, rfl, h⟩
    · wp_walk using wpAny_loadPart' hl, wpAny_pyIter_tuple hL
      exact ⟨_, rfl, h⟩
section
variable {prog : Program} {w : World} {A : Around} {E : Value → Shared → Prop} {s : Shared}
theorem call_enumerate_tuple {l : Addr} {items : Array Value} {Q : Value → Shared → Prop} (hL : s.heap.IsTuple l items)
    (h : ∀ h', IsEnum h' (s.heap.objs.size + 1) s.heap.objs.size 0 .none → h'.IsTupleIter s.heap.objs.size l 0 → h'.objs.size = s.heap.objs.size + 2 →
      (∀ b o, s.heap.get? b = some o → h'.get? b = some o) → Q (.ref (s.heap.objs.size + 1)) { s with heap := h' }) :
    wpAny (model prog w) A (call (.type "enumerate") [.ref l]) Q E s := by
  obtain ⟨⟨c, dct, dt, sl⟩, hl, hc, n, hd⟩ := hL
  replace hc : c = .type "tuple" := hc
  replace hd : dt = .seq items n := hd
  subst hc hd
  refine callType_new F.called_enumerate (by decide) (F.typeCall_enumerate_1 _) (F.newCall_enumerate_1 _) (fun obj => F.args_object_init_2 obj _) F.entry_enumerate_new
    (meets_enumerate_newT l items n dct sl) ⟨hl, ?_⟩
  have hz : (s.heap.push { cls := .type "tuple_iterator", data := .fields #[.ref l, .int 0 0] }).objs.size = s.heap.objs.size + 1 := Heap.size_push ..
  show _ ∧ _
  rw [hz]
  have he : IsEnum ((s.heap.push { cls := .type "tuple_iterator", data := .fields #[.ref l, .int 0 0] }).push
      { cls := .type "enumerate", data := .fields #[.none, .bool false, .ref s.heap.objs.size, rawInt 0, .none, .none] }) (s.heap.objs.size + 1) s.heap.objs.size 0 .none := by
    have := Heap.get?_push_size (s.heap.push { cls := .type "tuple_iterator", data := .fields #[.ref l, .int 0 0] })
      (o := { cls := .type "enumerate", data := .fields #[.none, .bool false, .ref s.heap.objs.size, rawInt 0, .none, .none] }) rfl
    rw [hz] at this; exact this
  refine ⟨⟨_, he, rfl⟩, h _ he ⟨_, Heap.get?_push_of_some _ (Heap.get?_push_size _ rfl), rfl, rfl⟩ (by rw [Heap.size_push, hz]) fun b o x => Heap.get?_push_of_some _ (Heap.get?_push_of_some _ x)⟩
end
section
variable {prog : Program} {w : World} {A : Around} {E : Value → Shared → Prop} {s : Shared}
theorem enumT_end {e it l : Addr} {i : Nat} {items : Array Value} {old : Value} {Q : Option Value → Shared → Prop} (hh : A.handled = none)
    (he : IsEnum s.heap e it i old) (hit : s.heap.IsTupleIter it l i) (hl : s.heap.IsTuple l items) (hx : items[i]? = none)
    (hQ : ∀ h', Heap.ExtBut it s.heap h' → Q none { s with heap := h' }) : wpAny (model prog w) A (pyNext (.ref e)) Q E s := by
  have hT : s.TypeIs (.ref e) "enumerate" := ⟨_, he, rfl⟩
  unfold pyNext
  refine wpAny_bind (wpAny_attempt (wpAny_callSpecial?_slot (name := Str.ofString "__next__") hT F.slot_enumerate_next
    (wpAny_call_entry F.slot_enumerate_next hT F.entry_enumerate_next ?_ (F.args_enumerate_next_1 _))))
  show wpAny _ _ (field (.ref e) 2 >>= _) _ _ _
  refine wpAny_bind (wpAny_field he rfl (x := .ref it) rfl ?_)
  refine wpAny_bind (wpAny_nextOf_tuple_end (A := A.in1) hh hit hl hx fun h' x he' hx' => ?_)
  obtain ⟨o, ho, hc⟩ := hx'
  refine wpAny_bind (wpAny_isInstance (T := "StopIteration") (b := true) ⟨o, ho, hc⟩ isSubtype_stop ?_)
  exact wpAny_pure (hQ _ he')
end
/-- the tuple at a as it stands at each turn, each item in a new pair -/
def IteT (K : PySem.W.Frag) (a : Addr) : It :=
  ⟨fun i H => ∃ (xs : List V) (x : V), SqT K H a xs ∧ xs[i]? = some x, fun i H v H' => ∃ T x, v = .ref T ∧ H T = none ∧ H' = upd H T (.tup [.int (i : Nat), x]) ∧ ∀ xs, SqT K H a xs → xs[i]? = some x, fun i H => ∃ xs : List V, SqT K H a xs ∧ xs.length ≤ i⟩
theorem turn_enumT {P : Program} {w : World} {K : PySem.W.Frag} {elts : List Expr} {kk : Nat} {tpos : Pos} (a e it : Addr) :
    Turn P w K (.Tuple elts kk tpos) (IteT K a) [e, it] e (fun i h => (∃ old, IsEnum h e it ((i : Nat) : Int) old) ∧ h.IsTupleIter it a i ∧ e ≠ it ∧ a ≠ it) where
  mem := by simp
  obj := fun i h st b hb => by
    obtain ⟨⟨old, he⟩, ⟨o, ho, hc, hd⟩, _⟩ := st
    have e' : b = e ∨ b = it := by simpa using hb
    rcases e' with z | z
    · rw [z]; exact ⟨_, he, fun v q => nomatch q⟩
    · rw [z]; exact ⟨o, ho, fun v q => by rw [hd] at q; cases q⟩
  keep := fun i h h' st k => let ⟨⟨old, he⟩, hi, hne⟩ := st; ⟨⟨old, k e (by simp) _ he⟩, hi.at fun o q => k it (by simp) o q, hne⟩
  item := by
    intro X hP hw hK hc i pins s σ H E I hf st hg
    subst hP hw hK
    obtain ⟨⟨old, he⟩, hit, hne, hna⟩ := st
    obtain ⟨xs, x, hq, hx⟩ := hg
    obtain ⟨its, rv, p, hz⟩ := I.tuple hq
    have p' : s.heap.IsTuple a its.toArray := p
    obtain ⟨u, hu, ru⟩ := rv.get hx
    have hel : e < s.heap.objs.size := Heap.lt_size he
    have hil : it < s.heap.objs.size := by obtain ⟨_, q, _⟩ := hit; exact Heap.lt_size q
    have hea : e ≠ a := fun z => by
      subst z
      obtain ⟨o, q1, q2, _⟩ := p'
      rw [show s.heap.get? e = some _ from he] at q1
      cases q1
      exact absurd (Value.type.inj q2) (by decide)
    have hlt : i < its.toArray.size := by
      have := (List.getElem?_eq_some_iff.mp hu).1
      simpa using this
    refine wpAny_pyNext_enum_itemD (Draws.tuple (A := X.A.in1) (I.ok.hd hc) it a hna its.toArray) he ⟨hit, p'⟩ hlt hne (by simp [hne, hea]) fun y h' tk hy ho st' hT hsz hk => ?_
    have hyu : y = u := by
      have : its[i]? = some y := by simpa using hy
      rw [hu] at this
      exact (Option.some.inj this).symm
    subst hyu
    refine ⟨_, rfl, wpAny_letOwnedTupleGo_enum (s := { s with heap := h', toks := tk + 1 }) ho fun h'' he' sb => ?_⟩
    have hT2 : h''.get? s.heap.objs.size = some { cls := .type "tuple", data := .seq #[.int i tk, y] } := (sb.2 _ (Nat.ne_of_gt hel)).trans hT
    have new : ObjOk X.prog X.w (upd H s.heap.objs.size (.tup [.int (i : Nat), x])) h'' s.heap.objs.size (.tup [.int (i : Nat), x]) :=
      ⟨by show 2 ≤ sizeLine; decide, [.int i tk, y], .cons ⟨_, rfl⟩ (.cons ru .nil), ⟨_, hT2, rfl, _, rfl⟩⟩
    have I1 : Inv X pins σ (upd H s.heap.objs.size (.tup [.int (i : Nat), x])) { s with heap := h'', toks := tk + 1 } :=
      I.turnedNew (ch := [e, it]) (fun b ob hb q => (sb.2 b (fun z => hb (by simp [z]))).trans (hk b ob (fun z => hb (by simp [z])) (fun z => hb (by simp [z])) q)) hf (Nat.le_refl _) new
    refine ⟨.ref s.heap.objs.size, _, I1, rfl, ⟨_, x, rfl, I.hok.fresh (Nat.le_refl _), rfl, fun ys hy => by rw [I.tuple_inj hy hq]; exact hx⟩, ⟨⟨y, ?_⟩, st'.1.at fun o q => (sb.2 it (Ne.symm hne)).trans q, hne, hna⟩, fun b hb => ?_⟩
    · have e1 : ((i + 1 : Nat) : Int) = (i : Int) + 1 := by omega
      rw [e1]; exact he'
    · have hb' : b < s.heap.objs.size := by
        have e' : b = e ∨ b = it := by simpa using hb
        rcases e' with z | z
        · rw [z]; exact hel
        · rw [z]; exact hil
      rw [upd_ne (Nat.ne_of_lt hb')]
      exact (hf b hb).1
  done := by
    intro X hP hw hK hc i pins s σ H E I hf st hg
    subst hP hw hK
    obtain ⟨⟨old, he⟩, hit, hne, hna⟩ := st
    obtain ⟨xs, hq, hx⟩ := hg
    obtain ⟨its, rv, p, hz⟩ := I.tuple hq
    have p' : s.heap.IsTuple a its.toArray := p
    obtain ⟨f0, f1, f2, f3, f4, f5⟩ := hf it (by simp)
    have hl := rv.length
    exact enumT_end (I.ok.hd hc) he hit p' (by simp; omega) fun h' eb => ⟨rfl, I.turned (t' := s.toks) (fun b o hb q => eb b o hb q) f0 f1 f3 f4 f5⟩
  self := fun A i s Q E st h => let ⟨⟨_, he⟩, _⟩ := st; wpAny_pyIter_enum he h
def iEnumT (K : PySem.W.Frag) (ta : TA) : TI := fun σ H R => ta σ H fun vs H1 => ∃ a xs, vs = [.ref a] ∧ SqT K H1 a xs ∧ R (IteT K a) H1
theorem pi_enumT {X : Cx} {e : Expr} {ta : TA} {p pos tpos : Pos} {elts : List Expr} {kk : Nat} (hg : Gl X "enumerate") (hm : X.mg "enumerate" = none) (ha : PA X [e] ta) (hs : starEach [e] X.env = [(false, eval e X.env)] := by rfl) :
    PI X (.Tuple elts kk tpos) (.Call (.Name "enumerate" p) [e] [] pos) (iEnumT X.K ta) := by
  refine ⟨fun pins s σ H R I h => ?_⟩
  refine Call_ (ld_blt I hg hm boot_enumerate (PyProof.Rows.callWith_type1 (thn (ha.run pos pins s σ H _ I h) fun us s1 ⟨vs, H1, I1, r1, q1⟩ => ?_) hs rfl))
  obtain ⟨a, xs, ex, hq, q⟩ := q1
  subst ex
  cases r1 with
  | cons r rr =>
    cases rr
    cases r
    obtain ⟨its, rv, p', hz⟩ := I1.tuple hq
    have p2 : s1.heap.IsTuple a its.toArray := p'
    have hlt : a < s1.heap.objs.size := by obtain ⟨_, q, _⟩ := p2; exact Heap.lt_size q
    refine call_enumerate_tuple p2 fun h' he hit hsz hk => wpAny_pyIter_enum he ?_
    have I2 : Inv X pins σ H1 { s1 with heap := h' } := I1.kept (t' := s1.toks) hk
    refine ⟨s1.heap.objs.size + 1, [s1.heap.objs.size + 1, s1.heap.objs.size], _, _, H1, rfl, I2, turn_enumT a (s1.heap.objs.size + 1) s1.heap.objs.size, ⟨⟨.none, he⟩, hit, Nat.succ_ne_self _, Nat.ne_of_lt hlt⟩, fun b hb => ?_, q⟩
    have e' : b = s1.heap.objs.size + 1 ∨ b = s1.heap.objs.size := by simpa using hb
    have hle : s1.heap.objs.size ≤ b := by
      rcases e' with z | z
      · rw [z]; exact Nat.le_add_right _ _
      · rw [z]; exact Nat.le_refl _
    exact I1.fpOk hle (I1.hok.fresh hle)
theorem walk_enumT {K : PySem.W.Frag} {a : Addr} {xs : List V} : Walk (IteT K a) xs.length (fun H => SqT K H a xs) (YPair (fun i => some (.int (i : Nat))) (fun i => xs[i]?)) := by
  refine ⟨fun i _ hi q => ⟨xs, xs[i], q, by simp [hi]⟩, fun _ q => ⟨xs, q, Nat.le_refl _⟩, fun i H v H' _ q y => ?_⟩
  obtain ⟨T, x, h1, h2, h3, h4⟩ := y
  exact ⟨T, .int (i : Nat), x, h1, h2, h3, rfl, h4 xs q⟩
theorem id_enumT {X : Cx} {ρ : En} {a : Expr} {pos : Pos} {ds : List D} {elts : List Expr} {kk : Nat} {tpos p : Pos} (hg : Gl X "enumerate") (hm : X.mg "enumerate" = none) (ha : ED X ρ a (.tup ds)) (hs : starEach [a] X.env = [(false, eval a X.env)] := by rfl) (hs2 : starEach [a] X.env = (false, eval a X.env) :: starEach [] X.env := by rfl) :
    ID X ρ (.Tuple elts kk tpos) (.Call (.Name "enumerate" p) [a] [] pos) (enumD ds) := fun B0 B σ H0 H R j k =>
  ⟨_, pi_enumT hg hm pa_star hs, ad_cons (X := X) ha ad_nil hs2 B0 B σ H0 H _ j fun vs G0 G g r => by
    obtain ⟨x, rfl, q, ys, rfl, h1, h2⟩ := r.one'
    refine ⟨q, ys, rfl, Same.seqT g.sh h1, k _ G0 G g (dw_pair (f := fun _ => none) (g := fun _ => none) walk_enumT (by rw [enum_len, DRs.length h2]) (fun H1 H s1 s2 => Same.seqT (s1.trans s2) h1) fun i d hd => ?_)⟩
    obtain ⟨d', e1, rfl⟩ := enum_get hd
    obtain ⟨v, e2, e3⟩ := DRs.get h2 e1
    refine ⟨_, _, rfl, fun v hv => ?_, fun v' hv => ?_⟩
    · cases hv; rfl
    · rw [e2] at hv; cases hv; exact e3⟩
end DL

/-! Circuits asked: the name of a net, the devices at it; circuits compared. -/
namespace DL
open PySem PySem.Spec PyProof.Rows L2
/-! ### the name of a net -/
def dueF (N : List Nm) (net : Int) : D := N.foldl (fun d q => if q.1 = net then .str q.2 else d) .non
theorem dueF_snoc (N : List Nm) (q : Nm) (net : Int) : dueF (N ++ [q]) net = if q.1 = net then .str q.2 else dueF N net := by
  unfold dueF; rw [List.foldl_append]; rfl
theorem dueF_cases (net : Int) : ∀ N : List Nm, dueF N net = .non ∨ ∃ z, dueF N net = .str z := by
  refine snoc_ind (.inl rfl) fun N q ih => ?_
  rw [dueF_snoc]
  split
  · exact .inr ⟨_, rfl⟩
  · exact ih
theorem dueF_no {net : Int} : ∀ {N : List Nm}, (∀ q ∈ N, q.1 ≠ net) → dueF N net = .non := fun {N} => by
  refine snoc_ind (P := fun N => (∀ q ∈ N, q.1 ≠ net) → dueF N net = .non) (fun _ => rfl) (fun N q ih h => ?_) N
  rw [dueF_snoc, if_neg (h q (by simp))]
  exact ih fun p hp => h p (by simp [hp])
theorem dueF_yes {net : Int} {z : Str} : ∀ {N : List Nm}, (N.map (·.1)).Nodup → (net, z) ∈ N → dueF N net = .str z := fun {N} => by
  refine snoc_ind (P := fun N => (N.map (·.1)).Nodup → (net, z) ∈ N → dueF N net = .str z) (fun _ h => by simp at h) (fun N q ih nd h => ?_) N
  rw [dueF_snoc]
  rw [List.map_append, List.nodup_append] at nd
  rcases List.mem_append.mp h with h | h
  · rw [if_neg, ih nd.1 h]
    intro e
    exact nd.2.2 net (List.mem_map.mpr ⟨_, h, rfl⟩) q.1 (by simp) e.symm
  · rw [List.mem_singleton] at h
    subst h
    rw [if_pos rfl]
theorem look_no {net : Int} : ∀ {M : List Nm}, (∀ q ∈ M, q.1 ≠ net) → lookD (M.map fun q => (Sum.inl q.1 : Key)) (M.map fun q => D.str q.2) (.inl net) = .non
  | [], h => rfl
  | p :: M, h => by
    have ih := look_no (net := net) (M := M) fun q hq => h q (by simp [hq])
    have hp : ¬ (Sum.inl p.1 : Key) = Sum.inl net := fun e => h p (by simp) (Sum.inl.inj e)
    simp only [lookD, List.map_cons, List.zip_cons_cons, List.find?_cons, hp, decide_false] at ih ⊢
    exact ih
theorem look_yes {net : Int} {z : Str} : ∀ {M : List Nm}, (M.map (·.1)).Nodup → (net, z) ∈ M → lookD (M.map fun q => (Sum.inl q.1 : Key)) (M.map fun q => D.str q.2) (.inl net) = .str z
  | [], _, h => by simp at h
  | p :: M, nd, h => by
    rw [List.map_cons, List.nodup_cons] at nd
    by_cases e : p.1 = net
    · have hz : p = (net, z) := by
        rcases List.mem_cons.mp h with h | h
        · exact h.symm
        · exact absurd (List.mem_map.mpr ⟨_, h, e.symm⟩) nd.1
      subst hz
      simp only [lookD, List.map_cons, List.zip_cons_cons, List.find?_cons, decide_true, Option.map_some, Option.getD_some]
    · have ih := look_yes (net := net) (z := z) (M := M) nd.2 (by
        rcases List.mem_cons.mp h with h | h
        · subst h; exact absurd rfl e
        · exact h)
      have hp : ¬ (Sum.inl p.1 : Key) = Sum.inl net := fun e2 => e (Sum.inl.inj e2)
      simp only [lookD, List.map_cons, List.zip_cons_cons, List.find?_cons, hp, decide_false] at ih ⊢
      exact ih
theorem name_look {N : List Nm} (nd : (N.map (·.1)).Nodup) (net : Int) : lookD ((srtN N).map fun q => (Sum.inl q.1 : Key)) ((srtN N).map fun q => D.str q.2) (.inl net) = dueF N net := by
  have nd2 : ((srtN N).map (·.1)).Nodup := ((srtN_perm N).map (·.1)).nodup_iff.mpr nd
  by_cases h : ∃ q ∈ N, q.1 = net
  · obtain ⟨⟨i, z⟩, hq, rfl⟩ := h
    rw [look_yes nd2 ((srtN_perm N).mem_iff.mpr hq), dueF_yes nd hq]
  · have h2 : ∀ q ∈ N, q.1 ≠ net := fun q hq e => h ⟨q, hq, e⟩
    rw [look_no fun q hq => h2 q ((srtN_perm N).mem_iff.mp hq), dueF_no h2]
/-! ### the devices at a net -/
def dv0 : Dev := ⟨"n", 0, 0, 0, 1, 1⟩
def devAt (V : List Dev) (k : Nat) : Dev := V.getD k dv0
def touB (v : Dev) (net : Int) : Bool := decide (net ∈ [v.g, v.a, v.b])
def atL (V : List Dev) (net : Int) : List Int := ((List.range V.length).filter fun k => touB (devAt V k) net).map fun (k : Nat) => (k : Int)
theorem atL_len (V : List Dev) (net : Int) : (atL V net).length ≤ V.length := by
  unfold atL
  rw [List.length_map]
  exact Nat.le_trans (List.length_filter_le _ _) (by rw [List.length_range]; exact Nat.le_refl _)
theorem devAt_eq {V : List Dev} {k : Nat} (h : k < V.length) : V[k]? = some (devAt V k) := by
  unfold devAt
  rw [List.getD_eq_getElem?_getD, List.getElem?_eq_getElem h]; rfl
theorem at_devL {V : List Dev} {k : Nat} (h : k < V.length) : atI (V.map Dev.e) (k : Int) = some (devAt V k).e := by
  refine atI_nn (by omega) ?_
  rw [Int.toNat_natCast, List.getElem?_map, devAt_eq h]; rfl
theorem dev_enum (V : List Dev) : enumD (V.map Dev.e) = (List.range V.length).map (fun (i : Nat) => D.tup [.int (i : Int), (devAt V i).e]) := by
  refine List.ext_getElem? fun i => ?_
  unfold enumD
  rw [List.getElem?_zipWith, List.length_map, List.getElem?_map, List.getElem?_map]
  by_cases hi : i < V.length
  · rw [List.getElem?_range hi, devAt_eq hi]; rfl
  · rw [List.getElem?_eq_none (by rw [List.length_range]; omega)]; rfl
theorem touB_eq (v : Dev) (net : Int) : touB v net = (decide (net = v.g) || (decide (net = v.a) || decide (net = v.b))) := by
  unfold touB
  rw [Bool.eq_iff_iff]
  simp
theorem atL_D (V : List Dev) (net : Int) : D.lst (((List.range V.length).filter fun k => touB (devAt V k) net).map fun (i : Nat) => D.int (i : Int)) = D.lst ((atL V net).map .int) := by
  unfold atL; rw [List.map_map]; rfl
/-! ### == -/
noncomputable def cirEq (n : Int) (N : List Nm) (V : List Dev) (m : Int) (M : List Nm) (W : List Dev) : Bool := decide (n = m) && (decide (srtN N = srtN M) && decide (V = W))
theorem str_small {x : Str} (h : x.cps.toList.all chB = true) : smallStr x := by
  show PyData.strOk x = true
  unfold PyData.strOk
  rw [Array.all_eq_true]
  intro i hi
  have := List.all_eq_true.mp h x.cps[i] (Array.mem_def.mp (Array.getElem_mem hi))
  unfold chB loB at this
  simp only [Bool.or_eq_true, Bool.and_eq_true, decide_eq_true_eq] at this ⊢
  omega
theorem name_small {x : Str} (h : nameB x = true) : smallStr x := by
  unfold nameB at h
  simp only [Bool.and_eq_true] at h
  exact str_small h.2.2
theorem nm_cm {N : List Nm} (h : ∀ q ∈ N, nameB q.2 = true) : Cm 2 (.tup (N.map nmE)) := .tup fun d hd => by
  obtain ⟨q, hq, rfl⟩ := List.mem_map.mp hd
  exact .tup (Cm.all_cons .int (Cm.all_cons (.str (name_small (h q hq))) Cm.all_nil))
theorem dev_cmd {n : Int} {v : Dev} (h : DevOk n v) : Cm 1 v.e := by
  refine .tup (Cm.all_cons (.str ?_) (Cm.all_cons .int (Cm.all_cons .int (Cm.all_cons .int (Cm.all_cons .int (Cm.all_cons .int Cm.all_nil))))))
  rcases h.k with e | e <;> rw [e] <;> exact str_small (by decide +kernel)
theorem dev_cm {n : Int} {V : List Dev} (h : ∀ v ∈ V, DevOk n v) : Cm 2 (.tup (V.map Dev.e)) := .tup fun d hd => by
  obtain ⟨v, hv, rfl⟩ := List.mem_map.mp hd
  exact dev_cmd (h v hv)
theorem dev_cmL {n : Int} {V : List Dev} (h : ∀ v ∈ V, DevOk n v) : Cm 2 (.lst (V.map Dev.e)) := .lst fun d hd => by
  obtain ⟨v, hv, rfl⟩ := List.mem_map.mp hd
  exact dev_cmd (h v hv)
theorem nmE_inj {p q : Nm} (h : nmE p = nmE q) : p = q := by
  obtain ⟨a, b⟩ := p
  obtain ⟨c, d⟩ := q
  simp only [nmE, D.tup.injEq, List.cons.injEq, D.int.injEq, D.str.injEq, and_true] at h
  rw [h.1, h.2]
theorem devE_inj {p q : Dev} (h : p.e = q.e) : p = q := by
  obtain ⟨a, b, c, d, e, f⟩ := p
  obtain ⟨a', b', c', d', e', f'⟩ := q
  simp only [Dev.e, D.tup.injEq, List.cons.injEq, D.int.injEq, D.str.injEq, and_true] at h
  obtain ⟨h1, h2, h3, h4, h5, h6⟩ := h
  rw [h1, h2, h3, h4, h5, h6]
theorem map_inj_of {α : Type} {f : α → D} (hf : ∀ a b, f a = f b → a = b) {l m : List α} : l.map f = m.map f ↔ l = m :=
  List.map_inj_right (f := f) hf
theorem c2_eqNm {X : Cx} {N M : List Nm} {k : Bool} (hu : X.A.units + 64 < cLine) (h : ∀ q ∈ N, nameB q.2 = true) (h' : ∀ q ∈ M, nameB q.2 = true) (hk : k = true ↔ N = M) : C2 X .Eq (.tup (N.map nmE)) (.tup (M.map nmE)) (.bl k) :=
  c2_eqC hu (nm_cm h) (nm_cm h') (by rw [D.tup.injEq, map_inj_of (fun a b => nmE_inj)]; exact hk)
theorem c2_eqDev {X : Cx} {n m : Int} {V W : List Dev} {k : Bool} (hu : X.A.units + 64 < cLine) (h : ∀ v ∈ V, DevOk n v) (h' : ∀ v ∈ W, DevOk m v) (hk : k = true ↔ V = W) : C2 X .Eq (.tup (V.map Dev.e)) (.tup (W.map Dev.e)) (.bl k) :=
  c2_eqC hu (dev_cm h) (dev_cm h') (by rw [D.tup.injEq, map_inj_of (fun a b => devE_inj)]; exact hk)
theorem c2_neDevL {X : Cx} {n m : Int} {V W : List Dev} {k : Bool} (hu : X.A.units + 64 < cLine) (h : ∀ v ∈ V, DevOk n v) (h' : ∀ v ∈ W, DevOk m v) (hk : k = true ↔ V = W) : C2 X .NotEq (.lst (V.map Dev.e)) (.lst (W.map Dev.e)) (.bl (!k)) :=
  c2_neC hu (dev_cmL h) (dev_cmL h') (by rw [D.lst.injEq, map_inj_of (fun a b => devE_inj)]; exact hk)
theorem srt_names {n : Int} {N : List Nm} {V : List Dev} (ok : CirOk n N V) : ∀ q ∈ srtN N, nameB q.2 = true := fun q hq => (ok.nm q ((srtN_perm N).mem_iff.mp hq)).2
/-! ### the law's other circuits -/
abbrev CT := Int × List Nm × List Dev
noncomputable def cT (t : CT) : D := cirD t.1 t.2.1 t.2.2
structure Oth (n : Int) (N : List Nm) (V : List Dev) (t : CT) : Prop where
  ok : CirOk t.1 t.2.1 t.2.2
  e1 : cirEq n N V t.1 t.2.1 t.2.2 = false
  e2 : cirEq t.1 t.2.1 t.2.2 n N V = false
theorem oth_n {n m : Int} {N M : List Nm} {V W : List Dev} (h : n ≠ m) (ok : CirOk m M W) : Oth n N V (m, M, W) := ⟨ok, by unfold cirEq; simp [h], by unfold cirEq; simp [h.symm]⟩
theorem oth_v {n m : Int} {N M : List Nm} {V W : List Dev} (h : V ≠ W) (ok : CirOk m M W) : Oth n N V (m, M, W) := ⟨ok, by unfold cirEq; simp [h], by unfold cirEq; simp [h.symm]⟩
theorem oth_s {n m : Int} {N M : List Nm} {V W : List Dev} (h : N.length ≠ M.length) (ok : CirOk m M W) : Oth n N V (m, M, W) := by
  have h1 : srtN N ≠ srtN M := fun e => h (by rw [← srtN_len N, ← srtN_len M, e])
  exact ⟨ok, by unfold cirEq; simp [h1], by unfold cirEq; simp [h1.symm]⟩
theorem DevOk.up {n m : Int} {v : Dev} (h : DevOk n v) (hm : n ≤ m) : DevOk m v := ⟨h.k, ⟨h.g.1, by have := h.g.2; omega⟩, ⟨h.e.1, h.e.2.1, by have := h.e.2.2; omega⟩, h.w, h.l⟩
theorem CirOk.up {n : Int} {N : List Nm} {V : List Dev} (ok : CirOk n N V) (h : n ≤ 100) : CirOk (n + 1) N V :=
  ⟨by have := ok.nn; omega, fun q hq => ⟨by have := (ok.nm q hq).1; omega, (ok.nm q hq).2⟩, ok.d1, ok.d2, ok.nl, ok.vl, fun v hv => (ok.dv v hv).up (by omega)⟩
theorem CirOk.more {n : Int} {N : List Nm} {V : List Dev} {z : Str} (ok : CirOk n N V) (h : n ≤ 100) (hl : N.length ≤ 100) (hz : nameB z = true) (hn : ∀ q ∈ N, q.2 ≠ z) : CirOk (n + 1) (N ++ [(n, z)]) V := by
  have up := ok.up h
  refine ⟨up.nn, fun q hq => ?_, ?_, ?_, by rw [List.length_append]; simp only [List.length_cons, List.length_nil]; omega, ok.vl, up.dv⟩
  · rcases List.mem_append.mp hq with hq | hq
    · exact up.nm q hq
    · rw [List.mem_singleton] at hq; subst hq
      exact ⟨by have := ok.nn; simp only; omega, hz⟩
  · rw [List.map_append, List.nodup_append]
    refine ⟨ok.d1, by simp, fun a ha b hb e => ?_⟩
    obtain ⟨q, hq, rfl⟩ := List.mem_map.mp ha
    simp only [List.map_cons, List.map_nil, List.mem_singleton] at hb
    have := (ok.nm q hq).1
    omega
  · rw [List.map_append, List.nodup_append]
    refine ⟨ok.d2, by simp, fun a ha b hb e => ?_⟩
    obtain ⟨q, hq, rfl⟩ := List.mem_map.mp ha
    simp only [List.map_cons, List.map_nil, List.mem_singleton] at hb
    exact hn q hq (e.trans hb)
theorem CirOk.devs {n : Int} {N : List Nm} {V W : List Dev} (ok : CirOk n N V) (h : W.length ≤ 200) (hd : ∀ v ∈ W, DevOk n v) : CirOk n N W := ⟨ok.nn, ok.nm, ok.d1, ok.d2, ok.nl, h, hd⟩
theorem CirOk.names {n : Int} {N M : List Nm} {V : List Dev} (ok : CirOk n N V) (h : M.Sublist N) : CirOk n M V :=
  ⟨ok.nn, fun q hq => ok.nm q (h.subset hq), (h.map _).nodup ok.d1, (h.map _).nodup ok.d2, Nat.le_trans h.length_le ok.nl, ok.vl, ok.dv⟩
def zz : Str := "zz9z"
theorem zz_ok : nameB zz = true := by decide +kernel
theorem qStr_zz (d : Int) (m : Nat) : qStr d m ≠ zz := fun e => by
  have e1 := congrArg (fun z : Str => z.cps.toList) e
  unfold qStr at e1
  simp only [cps_app] at e1
  have ek : ("k" : Str).cps.toList = [107] := by decide +kernel
  have ez : ¬ (107 ∈ zz.cps.toList) := by decide +kernel
  refine ez ?_
  rw [← e1, ek]
  simp
theorem cN_zz {c nets most : Int} : ∀ q ∈ cN c nets most, q.2 ≠ zz := fun q hq => by
  obtain ⟨m, _, _, d, e⟩ := qN_mem hq
  rw [e]
  exact qStr_zz d m
theorem cN_len {c nets most : Int} (h : 0 ≤ nets) : ((cN c nets most).length : Int) ≤ nets := by
  have h1 := qN_len c (5 * most + nets + 2) (qCnt c nets most).toNat
  have h2 := qCnt_lo (c := c) (most := most) h
  show ((qN _ _ _).length : Int) ≤ _
  omega
theorem cV_len {c nets most : Int} (h : 0 ≤ most) : ((cV c nets most).length : Int) ≤ most := by
  have h1 := qm_le c nets most h
  show ((qV _ _ _ _ _).length : Int) ≤ _
  rw [qV_len]; exact h1
def wid (v : Dev) : Dev := ⟨v.k, v.g, v.a, v.b, v.w + 1, v.l⟩
theorem wid_ok {n : Int} {v : Dev} (h : DevOk n v) : DevOk n (wid v) := ⟨h.k, h.g, h.e, by have := h.w; show 1 ≤ v.w + 1; omega, h.l⟩
/-- all the law needs of a drawn circuit -/
structure Drn (n : Int) (N : List Nm) (V : List Dev) : Prop where
  ok : CirOk n N V
  n : n ≤ 14
  nl : N.length ≤ 14
  vl : V.length ≤ 12
  z : ∀ q ∈ N, q.2 ≠ zz
theorem drn_ok (c : Int) : Drn (qCnt c 14 12) (cN c 14 12) (cV c 14 12) :=
  ⟨qcir_ok (by decide) (by decide), (qCnt_lo (by decide)).2, by have := cN_len (c := c) (nets := 14) (most := 12) (by decide); omega, by have := cV_len (c := c) (nets := 14) (most := 12) (by decide); omega, cN_zz⟩
section
variable {n : Int} {N : List Nm} {V V0 : List Dev} {v : Dev}
theorem Drn.a (h : Drn n N V) : CirOk (n + 1) N V := h.ok.up (by have := h.n; omega)
theorem Drn.b (h : Drn n N V) : CirOk (n + 1) (N ++ [(n, zz)]) V := h.ok.more (by have := h.n; omega) (by have := h.nl; omega) zz_ok h.z
theorem Drn.c (h : Drn n N V) (e : V = V0 ++ [v]) : CirOk n N V0 := h.ok.devs (by have := h.vl; rw [e, List.length_append] at this; omega) fun w hw => h.ok.dv w (by rw [e]; simp [hw])
theorem Drn.d (h : Drn n N V) (e : V = V0 ++ [v]) : CirOk n N (V ++ [v]) := h.ok.devs (by have := h.vl; rw [List.length_append]; simp only [List.length_cons, List.length_nil]; omega) fun w hw => by
  rcases List.mem_append.mp hw with hw | hw
  · exact h.ok.dv w hw
  · rw [List.mem_singleton] at hw; subst hw; exact h.ok.dv w (by rw [e]; simp)
theorem Drn.e (h : Drn n N V) (e : V = V0 ++ [v]) : CirOk n N (V0 ++ [wid v]) := h.ok.devs (by have := h.vl; rw [e] at this; rw [List.length_append] at this ⊢; exact Nat.le_trans this (by omega)) fun w hw => by
  rcases List.mem_append.mp hw with hw | hw
  · exact h.ok.dv w (by rw [e]; simp [hw])
  · rw [List.mem_singleton] at hw; subst hw; exact wid_ok (h.ok.dv v (by rw [e]; simp))
theorem Drn.f (h : Drn n N V) : CirOk n N V.reverse := h.ok.devs (by rw [List.length_reverse]; have := h.vl; omega) fun w hw => h.ok.dv w (List.mem_reverse.mp hw)
theorem Drn.g (h : Drn n N V) : CirOk n (N.drop 1) V := h.ok.names (List.drop_sublist 1 N)
theorem Drn.r (h : Drn n N V) : CirOk n N.reverse V := h.ok.perm N.reverse_perm
end
def oth0 (n : Int) (N : List Nm) (V : List Dev) : List CT := [(n + 1, N, V), (n + 1, N ++ [(n, zz)], V)]
def oth1 (n : Int) (N : List Nm) (V V0 : List Dev) (v : Dev) : List CT := oth0 n N V ++ [(n, N, V0), (n, N, V ++ [v])] ++ [(n, N, V0 ++ [wid v])]
def Oths (n : Int) (N : List Nm) (V : List Dev) (L : List CT) : Prop := (∀ t ∈ L, Oth n N V t) ∧ L.length ≤ 10
section
variable {n : Int} {N : List Nm} {V V0 : List Dev} {v : Dev} {L : List CT}
theorem oth0_ok (h : Drn n N V) : (∀ t ∈ oth0 n N V, Oth n N V t) := fun t ht => by
  simp only [oth0, List.mem_cons, List.not_mem_nil, or_false] at ht
  rcases ht with rfl | rfl
  · exact oth_n (by omega) h.a
  · exact oth_n (by omega) h.b
theorem oths0 (h : Drn n N V) : Oths n N V (oth0 n N V) := ⟨oth0_ok h, by simp [oth0]⟩
theorem oth1_ok (h : Drn n N V) (e : V = V0 ++ [v]) : (∀ t ∈ oth1 n N V V0 v, Oth n N V t) := fun t ht => by
  unfold oth1 at ht
  rcases List.mem_append.mp ht with ht | ht
  · rcases List.mem_append.mp ht with ht | ht
    · exact oth0_ok h t ht
    · simp only [List.mem_cons, List.not_mem_nil, or_false] at ht
      rcases ht with rfl | rfl
      · exact oth_v (fun q => by have := congrArg List.length (e.symm.trans q); simp at this) (h.c e)
      · exact oth_v (fun q => by have := congrArg List.length q; simp at this) (h.d e)
  · rw [List.mem_singleton] at ht; subst ht
    refine oth_v (fun q => ?_) (h.e e)
    rw [e] at q
    have := List.append_cancel_left q
    simp only [List.cons.injEq, and_true] at this
    have h2 := congrArg Dev.w this
    simp only [wid] at h2
    omega
theorem oths1 (h : Drn n N V) (e : V = V0 ++ [v]) : Oths n N V (oth1 n N V V0 v) := ⟨oth1_ok h e, by simp [oth1, oth0]⟩
theorem oths2 (h : Drn n N V) (e : V = V0 ++ [v]) (hr : V ≠ V.reverse) : Oths n N V (oth1 n N V V0 v ++ [(n, N, V.reverse)]) := ⟨fun t ht => by
  rcases List.mem_append.mp ht with ht | ht
  · exact oth1_ok h e t ht
  · rw [List.mem_singleton] at ht; subst ht
    exact oth_v hr h.f, by simp [oth1, oth0]⟩
theorem oths3 (h : Drn n N V) (hL : (∀ t ∈ L, Oth n N V t) ∧ L.length ≤ 9) (hn : 0 < N.length) : Oths n N V (L ++ [(n, N.drop 1, V)]) := ⟨fun t ht => by
  rcases List.mem_append.mp ht with ht | ht
  · exact hL.1 t ht
  · rw [List.mem_singleton] at ht; subst ht
    exact oth_s (by rw [List.length_drop]; omega) h.g, by rw [List.length_append]; simp only [List.length_cons, List.length_nil]; omega⟩
theorem cirEq_rev (h : CirOk n N V) : cirEq n N V n N.reverse V = true := by
  unfold cirEq
  rw [srtN_eq N.reverse_perm h.d1]
  simp
theorem at_lastD (e : V = V0 ++ [v]) : atI (V.map Dev.e) (-1) = some v.e := by
  subst e
  have hl : ((V0 ++ [v]).map Dev.e).length = V0.length + 1 := by simp
  unfold atI ixN
  rw [hl, if_neg (by decide), if_pos (by omega)]
  show ((V0 ++ [v]).map Dev.e)[((-1 : Int) + ((V0.length + 1 : Nat) : Int)).toNat]? = _
  rw [show ((-1 : Int) + ((V0.length + 1 : Nat) : Int)).toNat = V0.length by omega, List.map_append, List.getElem?_append_right (by simp), List.length_map, Nat.sub_self]
  rfl
theorem cut_init (e : V = V0 ++ [v]) : cutD (V.map Dev.e) none (some (-1)) = V0.map Dev.e := by
  subst e
  unfold cutD
  have hl : ((V0 ++ [v]).map Dev.e).length = V0.length + 1 := by simp
  rw [hl]
  show (List.drop 0 _).take (((-1 : Int) + ((V0.length + 1 : Nat) : Int)).toNat - 0) = _
  rw [List.drop_zero, show ((-1 : Int) + ((V0.length + 1 : Nat) : Int)).toNat - 0 = V0.length by omega, List.map_append]
  exact List.take_left' (by rw [List.length_map])
theorem cut_last (e : V = V0 ++ [v]) : cutD (V.map Dev.e) (some (-1)) none = [v].map Dev.e := by
  subst e
  unfold cutD
  have hl : ((V0 ++ [v]).map Dev.e).length = V0.length + 1 := by simp
  rw [hl]
  show (List.drop ((-1 : Int) + ((V0.length + 1 : Nat) : Int)).toNat _).take (V0.length + 1 - ((-1 : Int) + ((V0.length + 1 : Nat) : Int)).toNat) = _
  rw [show ((-1 : Int) + ((V0.length + 1 : Nat) : Int)).toNat = V0.length by omega, List.map_append, List.drop_left' (by rw [List.length_map]), show V0.length + 1 - V0.length = 1 by omega]
  rfl
theorem cut_one (N : List Nm) : cutD (N.map nmE) (some 1) none = (N.drop 1).map nmE := by
  unfold cutD
  show (List.drop (min (1 : Int).toNat (N.map nmE).length) (N.map nmE)).take ((N.map nmE).length - min (1 : Int).toNat (N.map nmE).length) = _
  rw [List.take_of_length_le (by rw [List.length_drop]; exact Nat.le_refl _), List.map_drop]
  cases N with
  | nil => rfl
  | cons a r => rw [Nat.min_eq_left (by simp)]; rfl
theorem last_of (h : decide ((0 : Int) < (V.map Dev.e).length) = true) : ∃ V0 v, V = V0 ++ [v] := by
  have h1 := of_decide_eq_true h
  rw [List.length_map] at h1
  have hne : V ≠ [] := fun e => by rw [e] at h1; simp at h1
  exact ⟨V.dropLast, V.getLast hne, (List.dropLast_concat_getLast hne).symm⟩
end
end DL

/-! Circuits as texts. -/
namespace DL
open PySem PySem.Spec PyProof.Rows L2
/-! ### numbers that are read -/
structure Rd (i : Int) : Prop where
  b : 0 ≤ i ∧ i < 10 ^ 30
theorem Rd.sm {i : Int} (h : Rd i) : Sm i := ⟨by have := h.b; omega⟩
theorem Rd.tl {i : Int} (h : Rd i) : (stI i).cps.toList = TL.numL i.toNat := by
  have := h.b
  have e := TL.tl_num i.toNat
  rw [show ((i.toNat : Nat) : Int) = i by omega] at e
  exact e
theorem Rd.len {i : Int} (h : Rd i) : (stI i).length ≤ 30 := by
  have := h.b
  have e : (stI i).length = (stI i).cps.toList.length := by rw [Array.length_toList]; rfl
  rw [e, h.tl]
  exact TL.numL_len (by decide) (by omega)
theorem Rd.dig {i : Int} (h : Rd i) : ∀ c ∈ (stI i).cps.toList, 48 ≤ c ∧ c ≤ 57 := fun c hc => by
  rw [h.tl] at hc
  exact TL.numL_digits _ c hc
theorem Rd.ne {i : Int} (h : Rd i) : (stI i).cps.toList ≠ [] := by rw [h.tl]; exact TL.numL_ne _
theorem dig_uni : ∀ c : Fin 10, Unicode.isDigit (48 + c.val) = true := by decide +kernel
theorem Rd.isdigit {i : Int} (h : Rd i) : Txt.isdigit (stI i) = true := by
  unfold Txt.isdigit
  have h1 : 0 < (stI i).length := by
    have := List.length_pos_iff.mpr h.ne
    rwa [Array.length_toList] at this
  rw [Bool.and_eq_true, ← Array.all_toList]
  refine ⟨decide_eq_true h1, List.all_eq_true.mpr fun c hc => ?_⟩
  obtain ⟨a, b⟩ := h.dig c hc
  have := dig_uni ⟨c - 48, by omega⟩
  rwa [show 48 + (c - 48) = c by omega] at this
theorem Rd.int {i : Int} (h : Rd i) : PySem.intText? (stI i) = some i := by
  have hb := h.b
  have e := TL.int_num (n := i.toNat) (by rw [← h.tl, Array.length_toList]; have := h.len; exact Nat.le_trans this (by decide))
  rwa [show ((i.toNat : Nat) : Int) = i by omega] at e
theorem num_first : ∀ n : Nat, 0 < n → (TL.numL n).getD 0 0 ≠ 48 := fun n => by
  induction n using Nat.strongRecOn with
  | _ n ih =>
    intro hn
    by_cases h : n < 10
    · rw [TL.numL_lt h]; show 48 + n ≠ 48; omega
    · rw [TL.numL_step (by omega)]
      have h1 := ih (n / 10) (by omega) (by omega)
      have h2 := TL.numL_ne (n / 10)
      cases q : TL.numL (n / 10) with
      | nil => exact absurd q h2
      | cons c r => rw [q] at h1; exact h1
theorem sgn_0 {c : Nat} (h : sgn c = ("0" : Str)) : c = 48 := by
  have e := congrArg (fun z : Str => z.cps.toList) h
  have e0 : ("0" : Str).cps.toList = [48] := by decide +kernel
  simp only [e0] at e
  have : [c] = [48] := e
  simpa using this
theorem Rd.head {i : Int} (h : Rd i) : (decide (stI i = ("0" : Str)) || !decide (sgn ((stI i).cps.toList.getD 0 0) = ("0" : Str))) = true := by
  have hb := h.b
  by_cases h0 : i = 0
  · subst h0
    rw [show decide (stI 0 = ("0" : Str)) = true by decide +kernel]; rfl
  · rw [decide_eq_false (p := sgn ((stI i).cps.toList.getD 0 0) = ("0" : Str)) (fun e => by
      have := sgn_0 e
      rw [h.tl] at this
      exact num_first i.toNat (by omega) this)]
    simp
theorem sub_minus (x : Str) (h : x.cps.toList.getD 0 0 ≠ 45) : Txt.startswith x "-" = false := by
  rw [Bool.eq_false_iff]
  intro z
  unfold Txt.startswith at z
  rw [Bool.and_eq_true] at z
  have h1 : x.cps.extract 0 (0 + ("-" : Str).length) = ("-" : Str).cps := by
    have := z.2
    change (x.cps.extract 0 (0 + ("-" : Str).length) == ("-" : Str).cps) = true at this
    exact eq_of_beq this
  have e1 : ("-" : Str).length = 1 := by decide +kernel
  have e2 : ("-" : Str).cps.toList = [45] := by decide +kernel
  have h2 := congrArg Array.toList h1
  rw [e1, e2, Array.toList_extract] at h2
  cases q : x.cps.toList with
  | nil => rw [q] at h2; simp at h2
  | cons c r =>
    rw [q] at h h2
    simp [List.extract_eq_drop_take] at h2
    exact h h2
theorem Rd.starts {i : Int} (h : Rd i) : Txt.startswith (stI i) "-" = false := sub_minus _ (by
  have h1 := h.ne
  have h2 := h.dig
  cases q : (stI i).cps.toList with
  | nil => exact absurd q h1
  | cons c r =>
    have := h2 c (by rw [q]; exact List.mem_cons_self)
    show c ≠ 45; omega)
/-! ### words and lines -/
structure WOk (w : Str) : Prop where
  s : 32 ∉ TL.tl w
  l : 10 ∉ TL.tl w
  n : w.length ≤ 41
theorem Rd.w {i : Int} (h : Rd i) : WOk (stI i) := ⟨fun m => by have := h.dig 32 m; omega, fun m => by have := h.dig 10 m; omega, by have := h.len; omega⟩
theorem name_w {x : Str} (h : nameB x = true) : WOk x := by
  have hl := nameB_len h
  unfold nameB at h
  simp only [Bool.and_eq_true] at h
  have ha := List.all_eq_true.mp h.2.2
  refine ⟨fun m => ?_, fun m => ?_, by omega⟩
  · have := ha 32 m; revert this; decide
  · have := ha 10 m; revert this; decide
theorem lit_w : WOk "nets" ∧ WOk "name" ∧ WOk "device" ∧ WOk "n" ∧ WOk "p" := by
  refine ⟨⟨?_, ?_, ?_⟩, ⟨?_, ?_, ?_⟩, ⟨?_, ?_, ?_⟩, ⟨?_, ?_, ?_⟩, ⟨?_, ?_, ?_⟩⟩ <;> decide +kernel
def wN (n : Int) : List Str := ["nets", stI n]
def wQ (q : Nm) : List Str := ["name", q.2, stI q.1]
def wV (v : Dev) : List Str := ["device", v.k, stI v.g, stI v.a, stI v.b, stI v.w, stI v.l]
abbrev lnW (ws : List Str) : Str := Str.join " " ws
def wsC (n : Int) (N : List Nm) (V : List Dev) : List (List Str) := wN n :: (N.map wQ ++ V.map wV)
def txC (n : Int) (N : List Nm) (V : List Dev) : Str := Str.join "\n" ((wsC n N V).map lnW)
structure TxOk (n : Int) (N : List Nm) (V : List Dev) : Prop where
  ok : CirOk n N V
  w : ∀ v ∈ V, v.w < 10 ^ 30 ∧ v.l < 10 ^ 30
theorem rd_small {i n : Int} (h : 0 ≤ i ∧ i < n) (hn : n ≤ 200) : Rd i := ⟨by omega⟩
theorem TxOk.q {n : Int} {N : List Nm} {V : List Dev} (t : TxOk n N V) {q : Nm} (h : q ∈ N) : Rd q.1 ∧ nameB q.2 = true := ⟨rd_small (t.ok.nm q h).1 t.ok.nn.2, (t.ok.nm q h).2⟩
structure DvT (v : Dev) : Prop where
  k : v.k = ("n" : Str) ∨ v.k = ("p" : Str)
  g : Rd v.g
  a : Rd v.a
  b : Rd v.b
  w : Rd v.w
  l : Rd v.l
theorem TxOk.v {n : Int} {N : List Nm} {V : List Dev} (t : TxOk n N V) {v : Dev} (h : v ∈ V) : DvT v := by
  have o := t.ok.dv v h
  have hn := t.ok.nn
  have hw := t.w v h
  have := o.g; have := o.e; have := o.w; have := o.l
  exact ⟨o.k, ⟨by omega⟩, ⟨by omega⟩, ⟨by omega⟩, ⟨by omega⟩, ⟨by omega⟩⟩
theorem wQ_ok {q : Nm} (h : Rd q.1 ∧ nameB q.2 = true) : ∀ w ∈ wQ q, WOk w := fun w hw => by
  have : w = "name" ∨ w = q.2 ∨ w = stI q.1 := by simpa [wQ] using hw
  rcases this with rfl | rfl | rfl
  · exact lit_w.2.1
  · exact name_w h.2
  · exact h.1.w
theorem wV_ok {v : Dev} (h : DvT v) : ∀ w ∈ wV v, WOk w := fun w hw => by
  have : w = "device" ∨ w = v.k ∨ w = stI v.g ∨ w = stI v.a ∨ w = stI v.b ∨ w = stI v.w ∨ w = stI v.l := by simpa [wV] using hw
  rcases this with rfl | rfl | rfl | rfl | rfl | rfl | rfl
  · exact lit_w.2.2.1
  · rcases h.k with e | e <;> rw [e]
    · exact lit_w.2.2.2.1
    · exact lit_w.2.2.2.2
  · exact h.g.w
  · exact h.a.w
  · exact h.b.w
  · exact h.w.w
  · exact h.l.w
theorem wN_ok {n : Int} (h : Rd n) : ∀ w ∈ wN n, WOk w := fun w hw => by
  have : w = "nets" ∨ w = stI n := by simpa [wN] using hw
  rcases this with rfl | rfl
  · exact lit_w.1
  · exact h.w
theorem TxOk.n {n : Int} {N : List Nm} {V : List Dev} (t : TxOk n N V) : Rd n := ⟨by have := t.ok.nn; omega⟩
/-- words of a line -/
theorem TxOk.ws {n : Int} {N : List Nm} {V : List Dev} (t : TxOk n N V) {ws : List Str} (h : ws ∈ wsC n N V) : ws ≠ [] ∧ ws.length ≤ 7 ∧ ∀ w ∈ ws, WOk w := by
  unfold wsC at h
  rw [List.mem_cons, List.mem_append, List.mem_map, List.mem_map] at h
  rcases h with rfl | ⟨q, hq, rfl⟩ | ⟨v, hv, rfl⟩
  · exact ⟨by simp [wN], by simp [wN], wN_ok t.n⟩
  · exact ⟨by simp [wQ], by simp [wQ], wQ_ok (t.q hq)⟩
  · exact ⟨by simp [wV], by simp [wV], wV_ok (t.v hv)⟩
theorem mem_joinL {S : List Nat} {c : Nat} : ∀ {ps : List (List Nat)}, c ∈ TL.joinL S ps → c ∈ S ∨ ∃ p ∈ ps, c ∈ p
  | [], h => by cases h
  | [p], h => .inr ⟨p, List.mem_cons_self, h⟩
  | p :: q :: r, h => by
    have h' : c ∈ p ++ (S ++ TL.joinL S (q :: r)) := h
    rw [List.mem_append, List.mem_append] at h'
    rcases h' with h | h | h
    · exact .inr ⟨p, List.mem_cons_self, h⟩
    · exact .inl h
    · rcases mem_joinL h with h | ⟨x, hx, h⟩
      · exact .inl h
      · exact .inr ⟨x, List.mem_cons_of_mem _ hx, h⟩
theorem sep_tl : TL.tl (" " : Str) = [32] ∧ TL.tl ("\n" : Str) = [10] := by decide +kernel
theorem ln_free {ws : List Str} (h : ∀ w ∈ ws, WOk w) : 10 ∉ TL.tl (lnW ws) := fun m => by
  unfold lnW at m
  rw [TL.tl_join, sep_tl.1] at m
  rcases mem_joinL m with m | ⟨p, hp, m⟩
  · simp at m
  · obtain ⟨w, hw, rfl⟩ := List.mem_map.mp hp
    exact (h w hw).l m
theorem ln_len {ws : List Str} (h : ∀ w ∈ ws, WOk w) (hl : ws.length ≤ 7) : (lnW ws).length ≤ 400 := by
  have h0 := join_len " " ws
  have h1 := sumL_le (k := 41) (zs := ws) fun w hw => (h w hw).n
  have := lens.2.2.2.1
  rw [this] at h0
  unfold lnW
  have : 41 * ws.length ≤ 41 * 7 := Nat.mul_le_mul_left _ hl
  omega
theorem ln_split {ws : List Str} (hne : ws ≠ []) (h : ∀ w ∈ ws, WOk w) : Txt.split (lnW ws) " " = ws := by
  unfold lnW
  rw [← TL.join_eq]
  exact TL.split_join sep_tl.1 (by decide +kernel) hne fun w hw => (h w hw).s
theorem tx_split {n : Int} {N : List Nm} {V : List Dev} (t : TxOk n N V) : Txt.split (txC n N V) "\n" = (wsC n N V).map lnW := by
  unfold txC
  rw [← TL.join_eq]
  refine TL.split_join sep_tl.2 (by decide +kernel) (by simp [wsC]) fun p hp => ?_
  obtain ⟨ws, hw, rfl⟩ := List.mem_map.mp hp
  exact ln_free (t.ws hw).2.2
theorem wsC_len {n : Int} {N : List Nm} {V : List Dev} (t : TxOk n N V) : (wsC n N V).length ≤ 1201 := by
  have := t.ok.nl; have := t.ok.vl
  simp only [wsC, List.length_cons, List.length_append, List.length_map]; omega
theorem tx_room {n : Int} {N : List Nm} {V : List Dev} (t : TxOk n N V) : sumL ((wsC n N V).map lnW) + ((wsC n N V).map lnW).length * ("\n" : Str).length ≤ 600000 := by
  have h1 := sumL_le (k := 400) (zs := (wsC n N V).map lnW) fun z hz => by
    obtain ⟨ws, hw, rfl⟩ := List.mem_map.mp hz
    exact ln_len (t.ws hw).2.2 (t.ws hw).2.1
  have h2 := wsC_len t
  rw [List.length_map] at h1 ⊢
  have := lens.2.2.2.2.2
  rw [this]
  have : 400 * (wsC n N V).length ≤ 400 * 1201 := Nat.mul_le_mul_left _ h2
  omega
theorem tx_len {n : Int} {N : List Nm} {V : List Dev} (t : TxOk n N V) : (txC n N V).length ≤ 600000 := Nat.le_trans (join_len _ _) (tx_room t)
theorem e_nets : ("nets " : Str) = ("nets" : Str) ++ (" " : Str) := by decide +kernel
theorem e_name : ("name " : Str) = ("name" : Str) ++ (" " : Str) := by decide +kernel
theorem e_device : ("device " : Str) = ("device" : Str) ++ (" " : Str) := by decide +kernel
theorem cat_N (n : Int) : catS ["nets ", stI n] = lnW (wN n) := by
  rw [e_nets]; unfold catS lnW wN
  simp only [List.foldl_cons, List.foldl_nil, Str.join, emp_app, app_assoc]
theorem cat_Q (q : Nm) : catS ["name ", q.2, " ", stI q.1] = lnW (wQ q) := by
  rw [e_name]; unfold catS lnW wQ
  simp only [List.foldl_cons, List.foldl_nil, Str.join, emp_app, app_assoc]
theorem cat_V (v : Dev) : catS ["device ", v.k, " ", stI v.g, " ", stI v.a, " ", stI v.b, " ", stI v.w, " ", stI v.l] = lnW (wV v) := by
  rw [e_device]; unfold catS lnW wV
  simp only [List.foldl_cons, List.foldl_nil, Str.join, emp_app, app_assoc]
/-! ### what is read, line by line -/
def nm0 : Nm := (0, "")
def dev0 : Dev := ⟨"n", 0, 0, 0, 0, 0⟩
def pN (N : List Nm) (i : Nat) : D := if i < N.length then nmE (N.getD i nm0) else .non
def pV (N : List Nm) (V : List Dev) (i : Nat) : D := if i < N.length then .non else (V.getD (i - N.length) dev0).e
def tWd (N : List Nm) (V : List Dev) (i : Nat) : List Str := if i < N.length then wQ (N.getD i nm0) else wV (V.getD (i - N.length) dev0)
theorem tWd_get {n : Int} {N : List Nm} {V : List Dev} {i : Nat} (h : i < N.length + V.length) : (wsC n N V)[i + 1]? = some (tWd N V i) := by
  unfold wsC tWd
  rw [List.getElem?_cons_succ]
  by_cases hi : i < N.length
  · rw [if_pos hi, List.getElem?_append_left (by rw [List.length_map]; exact hi), List.getElem?_map, List.getElem?_eq_getElem hi, List.getD_eq_getElem?_getD, List.getElem?_eq_getElem hi]; rfl
  · have hv : i - N.length < V.length := by omega
    rw [if_neg hi, List.getElem?_append_right (by rw [List.length_map]; omega), List.length_map, List.getElem?_map, List.getElem?_eq_getElem hv, List.getD_eq_getElem?_getD, List.getElem?_eq_getElem hv]; rfl
theorem take_N {N : List Nm} {i : Nat} (h : i < N.length) : N.take (i + 1) = N.take i ++ [N.getD i nm0] := by
  rw [List.take_add_one, List.getElem?_eq_getElem h, List.getD_eq_getElem?_getD, List.getElem?_eq_getElem h]; rfl
theorem take_V {V : List Dev} {i : Nat} (h : i < V.length) : V.take (i + 1) = V.take i ++ [V.getD i dev0] := by
  rw [List.take_add_one, List.getElem?_eq_getElem h, List.getD_eq_getElem?_getD, List.getElem?_eq_getElem h]; rfl
def lastN (dn : List Nm) : Int := if dn.length = 0 then -1 else (dn.getD (dn.length - 1) nm0).1
theorem lastN_lt {dn : List Nm} {i : Int} (h : ∀ p ∈ dn, p.1 < i) (h0 : 0 ≤ i) : lastN dn < i := by
  unfold lastN
  split
  · omega
  · next hn =>
    have hl : dn.length - 1 < dn.length := by omega
    have : dn[dn.length - 1]? = some (dn.getD (dn.length - 1) nm0) := by rw [List.getD_eq_getElem?_getD, List.getElem?_eq_getElem hl]; rfl
    exact h _ (List.mem_of_getElem? this)
/-- the name at i, behind the ones before -/
theorem name_new {n : Int} {N : List Nm} {V : List Dev} (t : TxOk n N V) (asc : N.Pairwise (fun p q => p.1 < q.1)) {i : Nat} (h : i < N.length) : (∀ p ∈ N.take i, p.1 < (N.getD i nm0).1) ∧ (N.getD i nm0).2 ∉ (N.take i).map (·.2) ∧ (N.getD i nm0) ∈ N := by
  have e : N[i]? = some (N.getD i nm0) := by rw [List.getD_eq_getElem?_getD, List.getElem?_eq_getElem h]; rfl
  have hs : N.take (i + 1) = N.take i ++ [N.getD i nm0] := take_N h
  have s1 : (N.take (i + 1)).Pairwise (fun p q => p.1 < q.1) := asc.sublist (List.take_sublist _ _)
  rw [hs] at s1
  have s2 : ((N.take (i + 1)).map (·.2)).Nodup := t.ok.d2.sublist ((List.take_sublist _ _).map _)
  rw [hs, List.map_append] at s2
  refine ⟨fun p hp => (List.pairwise_append.mp s1).2.2 p hp _ (List.mem_singleton_self _), fun m => ?_, List.mem_of_getElem? e⟩
  exact (List.nodup_append.mp s2).2.2 _ m _ (List.mem_singleton_self _) rfl
theorem at_head {i : Int} (h : Rd i) : atI (stI i).cps.toList 0 = some ((stI i).cps.toList.getD 0 0) := by
  refine atI_nn (by decide) ?_
  have hn := h.ne
  cases q : (stI i).cps.toList with
  | nil => exact absurd q hn
  | cons c r => rfl
theorem at_lastN {dn : List Nm} (h : dn.length ≠ 0) : atI (dn.map nmE) (-1) = some (nmE (dn.getD (dn.length - 1) nm0)) := by
  unfold atI
  rw [show ixN (dn.map nmE).length (-1) = some (dn.length - 1) by rw [List.length_map]; unfold ixN; rw [if_neg (by omega), if_pos (by omega)]; congr 1; omega]
  show (dn.map nmE)[dn.length - 1]? = _
  have hl : dn.length - 1 < dn.length := by omega
  rw [List.getElem?_map, List.getElem?_eq_getElem hl, List.getD_eq_getElem?_getD, List.getElem?_eq_getElem hl]; rfl
theorem pN_some {N : List Nm} {i : Nat} (h : (!isNon (pN N i)) = true) : i < N.length := by
  refine Classical.byContradiction fun z => ?_
  unfold pN at h
  rw [if_neg z] at h
  cases h
theorem pN_none {N : List Nm} {i : Nat} (h : (!isNon (pN N i)) = false) : ¬ i < N.length := fun z => by
  unfold pN at h
  rw [if_pos z] at h
  cases h
theorem pV_none {N : List Nm} {V : List Dev} {i : Nat} (hc : ¬ i < N.length) (h : (!isNon (pV N V i)) = false) : False := by
  unfold pV at h
  rw [if_neg hc] at h
  cases h
theorem nm_if {N : List Nm} {V : List Dev} {i : Nat} {k : Bool} (hk : k = !((V.take (i - N.length)).map Dev.e).isEmpty) : (if k = true then D.non else pN N i) = pN N i := by
  by_cases hc : i < N.length
  · have e : i - N.length = 0 := by omega
    rw [e] at hk
    subst hk; rfl
  · unfold pN
    rw [if_neg hc]
    split <;> rfl
theorem st_nm {N : List Nm} {V : List Dev} {i : Nat} (hc : i < N.length) : (N.take (i + 1)).map nmE = (N.take i).map nmE ++ [pN N i] ∧ (V.take (i + 1 - N.length)).map Dev.e = (V.take (i - N.length)).map Dev.e := by
  refine ⟨?_, ?_⟩
  · rw [take_N hc, List.map_append]; unfold pN; rw [if_pos hc]; rfl
  · rw [show i + 1 - N.length = 0 by omega, show i - N.length = 0 by omega]
theorem st_dv {N : List Nm} {V : List Dev} {i : Nat} (hc : ¬ i < N.length) (h : i < N.length + V.length) : (N.take (i + 1)).map nmE = (N.take i).map nmE ∧ (V.take (i + 1 - N.length)).map Dev.e = (V.take (i - N.length)).map Dev.e ++ [pV N V i] := by
  refine ⟨?_, ?_⟩
  · rw [List.take_of_length_le (by omega), List.take_of_length_le (by omega)]
  · rw [show i + 1 - N.length = (i - N.length) + 1 by omega, take_V (by omega), List.map_append]; unfold pV; rw [if_neg hc]; rfl
theorem getD_inV {V : List Dev} {i : Nat} (h : i < V.length) : V.getD i dev0 ∈ V := by
  have : V[i]? = some (V.getD i dev0) := by rw [List.getD_eq_getElem?_getD, List.getElem?_eq_getElem h]; rfl
  exact List.mem_of_getElem? this
theorem tx_enum {n : Int} {N : List Nm} {V : List Dev} : enumK 2 (cutD ((wsC n N V).map fun ws : List Str => D.lst (ws.map D.str)) (some 1) none) = (List.range (N.length + V.length)).map fun (i : Nat) => D.tup [.int (((2 : Nat) : Int) + (i : Int)), .lst ((tWd N V i).map D.str)] := by
  have e0 : cutD ((wsC n N V).map fun ws : List Str => D.lst (ws.map D.str)) (some 1) none = (N.map wQ ++ V.map wV).map fun ws : List Str => D.lst (ws.map D.str) := by
    rw [cutDrop _ (by decide)]; rfl
  rw [e0]
  have hl : (N.map wQ ++ V.map wV).length = N.length + V.length := by simp
  refine List.ext_getElem? fun i => ?_
  by_cases h : i < N.length + V.length
  · have h2 := tWd_get (n := n) h
    unfold wsC at h2
    rw [List.getElem?_cons_succ] at h2
    unfold enumK
    rw [List.getElem?_zipWith, List.length_map, hl, List.getElem?_range h, List.getElem?_map, h2, List.getElem?_map, List.getElem?_range h]; rfl
  · rw [List.getElem?_eq_none (by rw [enumK_len, List.length_map, hl]; omega), List.getElem?_eq_none (by rw [List.length_map, List.length_range]; omega)]
theorem kind_len {v : Dev} (h : DvT v) : v.k.length = 1 := by rcases h.k with e | e <;> rw [e] <;> decide +kernel
theorem litC_len : ("nets " : Str).length = 5 ∧ ("name " : Str).length = 5 ∧ ("device " : Str).length = 7 ∧ (" " : Str).length = 1 := by decide +kernel
theorem last_if {dn : List Nm} : (if (!(dn.map nmE).isEmpty) = true then (dn.getD (dn.length - 1) nm0).1 else -1) = lastN dn := by
  unfold lastN
  cases dn with
  | nil => rfl
  | cons p r => rfl
/-! ### the law -/
def wideL (c : Int) : Int := ([0, 100000000000000000000000000000, 999999999999999999999999999990] : List Int).getD (c % 3).toNat 0
theorem wideL_bd (c : Int) : 0 ≤ wideL c ∧ wideL c ≤ 999999999999999999999999999990 := by
  unfold wideL
  have h1 : c % 3 = 0 ∨ c % 3 = 1 ∨ c % 3 = 2 := by omega
  rcases h1 with h | h | h <;> rw [h] <;> decide
def addB (m : Int) (v : Dev) : Dev := ⟨v.k, v.g, v.a, v.b, v.w + m, v.l + m⟩
theorem drawn_small {c nets most : Int} : ∀ v ∈ cV c nets most, v.w ≤ 3 ∧ v.l ≤ 2 := fun v hv => by
  unfold cV qV at hv
  obtain ⟨k, _, rfl⟩ := List.mem_map.mp hv
  refine ⟨?_, ?_⟩
  · show 1 + _ % 3 ≤ 3; omega
  · show 1 + _ / 3 % 2 ≤ 2; omega
theorem cir_addB {n m : Int} {N : List Nm} {V : List Dev} (hm : 0 ≤ m) (ok : CirOk n N V) : CirOk n N (V.map (addB m)) :=
  ⟨ok.nn, ok.nm, ok.d1, ok.d2, ok.nl, by rw [List.length_map]; exact ok.vl, fun u hu => by
    obtain ⟨v, hv, rfl⟩ := List.mem_map.mp hu
    have d := ok.dv v hv
    exact ⟨d.k, d.g, d.e, by have := d.w; show 1 ≤ v.w + m; omega, by have := d.l; show 1 ≤ v.l + m; omega⟩⟩
theorem tx_addB {n m : Int} {N : List Nm} {V : List Dev} (hm : 0 ≤ m ∧ m ≤ 999999999999999999999999999990) (ok : CirOk n N V) (hs : ∀ v ∈ V, v.w ≤ 3 ∧ v.l ≤ 2) : TxOk n (srtN N) (V.map (addB m)) :=
  ⟨(cir_addB hm.1 ok).perm (srtN_perm N), fun u hu => by
    obtain ⟨v, hv, rfl⟩ := List.mem_map.mp hu
    have := hs v hv
    refine ⟨?_, ?_⟩
    · show v.w + m < 10 ^ 30; omega
    · show v.l + m < 10 ^ 30; omega⟩
theorem DvT.all {v : Dev} (h : DvT v) : ∀ i ∈ ([v.g, v.a, v.b, v.w, v.l] : List Int), Rd i := fun i hi => by
  have hi : i = v.g ∨ i = v.a ∨ i = v.b ∨ i = v.w ∨ i = v.l := by simpa using hi
  rcases hi with rfl | rfl | rfl | rfl | rfl
  · exact h.g
  · exact h.a
  · exact h.b
  · exact h.w
  · exact h.l
theorem cat3 (a b : Str) (n : Int) : ("name " : Str) ++ a ++ b ++ stI n = ("name " : Str) ++ a ++ (b ++ stI n) := by simp only [app_assoc]
theorem ln_N (n : Int) : ("nets " : Str) ++ stI n = lnW (wN n) := by rw [← cat_N, cat_2]
theorem ln_Q (q : Nm) : ("name " : Str) ++ q.2 ++ (" " : Str) ++ stI q.1 = lnW (wQ q) := by
  rw [← cat_Q]; unfold catS; simp only [List.foldl_cons, List.foldl_nil, emp_app]
noncomputable def lsC (n : Int) (N : List Nm) (V : List Dev) : List Str := (wN n :: (N.map wQ ++ V.map wV)).map lnW
theorem lsC_snoc (n : Int) (N : List Nm) (V : List Dev) {i : Nat} {v : Dev} (h : V[i]? = some v) : (lsC n N (V.take (i + 1))).map D.str = (lsC n N (V.take i)).map D.str ++ [.str (lnW (wV v))] := by
  unfold lsC
  rw [List.take_add_one, h]
  simp
theorem lsC_len (n : Int) (N : List Nm) (V : List Dev) : (lsC n N V).length = 1 + N.length + V.length := by
  unfold lsC; simp; omega
theorem cirEq_srt {n : Int} {N : List Nm} {V : List Dev} (h : (N.map (·.1)).Nodup) : cirEq n (srtN N) V n N.reverse V = true := by
  unfold cirEq
  rw [srtN_eq N.reverse_perm h, srtN_eq (srtN_perm N) h]
  simp
def manP : Dev := ⟨"p", 199, 0, 199, 1, 1⟩
def manyP : List Dev := List.replicate 200 manP
def manyN : List Nm := [(199, "z")]
theorem manyP_D : (List.replicate (200 : Int).toNat [manP.e]).flatten = manyP.map Dev.e := by
  unfold manyP
  show (List.replicate 200 [manP.e]).flatten = _
  simp
theorem manyP_ok : CirOk 200 manyN manyP := by
  refine ⟨by decide, fun q hq => ?_, by decide, by decide, by decide, by simp [manyP], fun v hv => ?_⟩
  · have : q = ((199, "z") : Nm) := by simpa [manyN] using hq
    subst this
    exact ⟨by decide, by decide +kernel⟩
  · have := (List.mem_replicate.mp hv).2
    subst this
    exact ⟨.inr rfl, by decide, by decide, by decide, by decide⟩
theorem manyP_tx : TxOk 200 (srtN manyN) manyP := ⟨manyP_ok.perm (srtN_perm _), fun v hv => by
  have := (List.mem_replicate.mp hv).2
  subst this
  decide⟩
end DL

namespace DL
open PySem PySem.Spec PyProof.Rows L2
/-! short ways -/
local macro_rules | `(tactic| walk_at "side") => `(tactic| first | assumption | decide | omega | (simp only [List.length_map, List.length_append, List.length_cons, List.length_nil, sizeLine_eq] at *; omega))
local macro_rules | `(tactic| walk_at "len") => `(tactic| first | decide | (simp [sizeLine_eq]; done) | (simp [sizeLine_eq]; omega))
local macro_rules | `(tactic| walk_at "b2") => `(tactic| first
  | exact b2_add | exact b2_sub | exact b2_mod (by decide) | exact b2_fdiv ⟨by decide, by decide⟩
  | exact b2_mul (by first | exact Or.inr ⟨by decide, by decide⟩ | exact Or.inl ⟨by decide, by decide⟩ | exact Or.inr ⟨by omega, by omega⟩ | exact Or.inl ⟨by omega, by omega⟩)
  | exact b2_mod (by first | assumption | omega) | exact b2_fdiv ⟨by omega, by omega⟩ | exact b2_addS (by walk_at "side"))
local macro_rules | `(tactic| walk_at "c2") => `(tactic| first
  | exact c2_lt | exact c2_le | exact c2_gt | exact c2_ge | exact c2_eqI | exact c2_neI | exact c2_isN | exact c2_notN | exact c2_isB | exact c2_notB | exact c2_eqB | exact c2_neB | exact c2_eqS | exact c2_neS | exact c2_leS | exact c2_inInts | exact c2_eq2 (by assumption) | exact c2_eq4 (by assumption) | exact c2_ne2 (by assumption) | exact c2_ne4 (by assumption) | exact c2_eqInts (by assumption) | exact c2_neInts (by assumption) | exact c2_eqIntsL (by assumption) | exact c2_inSq (by assumption) | exact c2_notInSq (by assumption) | exact c2_eqBx (by assumption) | exact c2_neBx (by assumption))
local macro_rules | `(tactic| walk_at "ix") => `(tactic| first | exact IX.t0 | exact IX.t1 | exact IX.t2 | exact IX.t3 | exact IX.t4 | exact IX.t5 | exact IX.l0 | exact IX.l1 | exact IX.l2 | exact IX.l (at_draws (by first | decide | omega) (by first | decide | omega)) | exact ix_sel3 ⟨by omega, by omega⟩ | exact IX.l rfl)
local macro_rules | `(tactic| walk_at "bc") => `(tactic| first | exact bc_int | exact bc_lenL | exact bc_lenT | exact bc_tupL | exact bc_tupT | exact bc_min2 rfl | exact bc_max2 rfl)
local macro_rules | `(tactic| walk_at "bo") => `(tactic| first | exact bo_listL | exact bo_listT)
local macro_rules | `(tactic| walk_at "mk") => `(tactic| first | exact .mk _ | exact .mk _ _ | exact .mk _ _ _ | exact .mk _ _ _ _ | exact .mk _ _ _ _ _ | exact .mk _ _ _ _ _ _ | exact .mk _ _ _ _ _ _ _ | exact .mk _ _ _ _ _ _ _ _ | exact .mk)
local macro_rules | `(tactic| walk_at "kd") => `(tactic| first | exact kd_int | exact kd_bl | exact kd_str | (refine' kd_tup ?l ?c ?e ?z ?r; (case l => k_is); (case c => rfl); (case e => rfl); (case z => decide); (case r => walk_at "kds")))
local macro_rules | `(tactic| walk_at "kds") => `(tactic| first | exact kds_nil | (refine' kds_cons ?a ?b; (case a => walk_at "kd"); (case b => walk_at "kds")))
local macro_rules | `(tactic| walk_at "en") => `(tactic| simp only [en, enI, enL, List.map_cons, List.map_nil, List.length_cons, List.length_nil, List.cons_append, List.nil_append, List.replicate, Nat.add_one_sub_one, Nat.reduceAdd, Nat.reduceSub])
local macro_rules | `(tactic| walk_at "env") => `(tactic| simp only [upds, List.foldl_cons, List.foldl_nil, OC.d, List.set_cons_zero, List.set_cons_succ])

inductive R_is_name : List D → D → Prop where
  | mk (x : Str) (h : x.length ≤ sizeLine) : R_is_name [.str x] (.bl (nameB x))
inductive R_is_net_count : List D → D → Prop where
  | mk (n : Int) : R_is_net_count [.int n] (.bl (decide (0 ≤ n) && decide (n ≤ 200)))
inductive R_is_device : List D → D → Prop where
  | mk (v : Dev) (n : Int) (b : Bool) (h : b = devB n v) : R_is_device [v.e, .int n] (.bl b)
inductive R_are_names : List D → D → Prop where
  | mk (d : D) (N : List Nm) (n : Int) (hd : SeqD d (N.map nmE)) (h : N.length ≤ 1000) (hz : ∀ q ∈ N, q.2.length ≤ 1000) : R_are_names [d, .int n] (.bl (namesB N n))
inductive R_Circuit_init : List D → List Str → List D → Prop where
  | mk (n : Int) (N : List Nm) (V : List Dev) (dN dV : D) (hN : SeqD dN (N.map nmE)) (hV : SeqD dV (V.map Dev.e)) (ok : CirOk n N V) : R_Circuit_init [.int n, dN, dV] ["net_count", "names", "devices", "_name_table"] (cirV n N V)
inductive R_Circuit_eq : List D → D → Prop where
  | mk (n m : Int) (N M : List Nm) (V W : List Dev) (ok : CirOk n N V) (ok2 : CirOk m M W) : R_Circuit_eq [cirD n N V, cirD m M W] (.bl (cirEq n N V m M W))
inductive R_is_integer : List D → D → Prop where
  | mk (i : Int) (h : Rd i) : R_is_integer [.str (stI i)] (.bl true)
inductive R_read_integers : List D → D → Prop where
  | mk (ns : List Int) (h : ∀ i ∈ ns, Rd i) (hl : ns.length ≤ 100) : R_read_integers [.lst (ns.map fun i => .str (stI i))] (.tup (ns.map .int))
inductive R_device_line : List D → D → Prop where
  | mk (v : Dev) (h : DvT v) : R_device_line [v.e] (.str (lnW (wV v)))
inductive R_format_circuit : List D → D → Prop where
  | mk (n : Int) (N : List Nm) (V : List Dev) (t : TxOk n (srtN N) V) : R_format_circuit [cirD n N V] (.str (txC n (srtN N) V))
inductive R_net_count_in : List D → D → Prop where
  | mk (n : Int) (h : 0 ≤ n ∧ n ≤ 200) : R_net_count_in [.lst ((wN n).map .str)] (.int n)
inductive R_name_in_q : List D → D → Prop where
  | mk (n : Int) (dn : List Nm) (q : Nm) (hlt : ∀ p ∈ dn, p.1 < q.1) (hq : 0 ≤ q.1 ∧ q.1 < n) (hn : n ≤ 200) (hnm : nameB q.2 = true) (hnew : q.2 ∉ dn.map (·.2)) (hl : dn.length ≤ 1000) : R_name_in_q [.lst ((wQ q).map .str), .int n, .lst (dn.map nmE)] (nmE q)
inductive R_name_in_v : List D → D → Prop where
  | mk (n : Int) (dn : List Nm) (v : Dev) (h : DvT v) : R_name_in_v [.lst ((wV v).map .str), .int n, .lst (dn.map nmE)] .non
inductive R_device_in_v : List D → D → Prop where
  | mk (n : Int) (v : Dev) (h : DvT v) (hd : devB n v = true) : R_device_in_v [.lst ((wV v).map .str), .int n] v.e
inductive R_device_in_q : List D → D → Prop where
  | mk (n : Int) (q : Nm) (h : Rd q.1) : R_device_in_q [.lst ((wQ q).map .str), .int n] .non
inductive R_parse_circuit : List D → D → Prop where
  | mk (n : Int) (N : List Nm) (V : List Dev) (t : TxOk n N V) (asc : N.Pairwise (fun p q => p.1 < q.1)) : R_parse_circuit [.str (txC n N V)] (cirD n N V)
inductive R_law_cell : List D → D → Prop where
  | mk (ns : List Int) (k : Int) (h : 0 ≤ k) : R_law_cell [.lst (ns.map .int), .int k] (.int (cellAt ns k))
inductive R_law_draws : List D → D → Prop where
  | mk (c n : Int) (h : 0 ≤ n) (h2 : n ≤ 1000) : R_law_draws [.int c, .int n] (.lst ((draws c n).map .int))
inductive R_law_is_int : List D → D → Prop where
  | mk (i : Int) : R_law_is_int [.int i] (.bl true)
inductive R_law_is_text : List D → D → Prop where
  | mk (z : Str) : R_law_is_text [.str z, .str z] (.bl true)
inductive R_law_is_number : List D → D → Prop where
  | mk (i j : Int) : R_law_is_number [.int i, .int j] (.bl (decide (i = j)))
inductive R_law_name : List D → D → Prop where
  | mk (d : Int) (h : 0 ≤ d) : R_law_name [.int d] (.str (nmOf d))
inductive R_law_like_int : List D → D → Prop where
  | mk (i : Int) : R_law_like_int [.int i, .int i] (.bl true)
inductive R_law_like_str : List D → D → Prop where
  | mk (z : Str) : R_law_like_str [.str z, .str z] (.bl true)
inductive R_law_like_t1 : List D → D → Prop where
  | mk (ds : List D) (h : ds.length ≤ 1000) (hl : ∀ d ∈ ds, LfD d) : R_law_like_t1 [.tup ds, .tup ds] (.bl true)
inductive R_law_like_t2 : List D → D → Prop where
  | mk (ds : List D) (h : ds.length ≤ 1000) (hl : ∀ d ∈ ds, L2D d) : R_law_like_t2 [.tup ds, .tup ds] (.bl true)
inductive R_law_qcircuit : List D → D → Prop where
  | mk (c nets most : Int) (h : 0 ≤ nets ∧ nets ≤ 60) (h2 : 0 ≤ most ∧ most ≤ 60) : R_law_qcircuit [.int c, .int nets, .int most] (.tup [.int (qCnt c nets most), .lst ((cN c nets most).map nmE), .lst ((cV c nets most).map Dev.e)])
inductive R_law_qis_circuit : List D → D → Prop where
  | mk (n : Int) (N M : List Nm) (V : List Dev) (hp : M.Perm N) (nd : (N.map (·.1)).Nodup) (h1 : N.length ≤ 1000) (h2 : V.length ≤ 1000) : R_law_qis_circuit [cirD n N V, .int n, .lst (M.map nmE), .lst (V.map Dev.e)] (.bl true)
inductive R_law_qcircuit_lines : List D → D → Prop where
  | mk (n : Int) (N : List Nm) (V : List Dev) (t : TxOk n (srtN N) V) : R_law_qcircuit_lines [.int n, .lst (N.map nmE), .lst (V.map Dev.e)] (.lst ((lsC n (srtN N) V).map .str))
abbrev R_law := RLaw
def top (i : Nat) : Stmt := PySem.Challenge.pw_reticle_k69_written_circuits.main.body.getD i (.Pass ⟨0, 0, 0, 0⟩)
structure Bt (mg : Str → Option Value) : Prop where
  «all» : mg "all" = none
  «bool» : mg "bool" = none
  «dict» : mg "dict" = none
  «enumerate» : mg "enumerate" = none
  «int» : mg "int" = none
  «isinstance» : mg "isinstance" = none
  «len» : mg "len" = none
  «list» : mg "list" = none
  «range» : mg "range" = none
  «set» : mg "set" = none
  «sorted» : mg "sorted" = none
  «str» : mg "str" = none
  «tuple» : mg "tuple" = none
structure Kt (K : PySem.W.Frag) (mg : Str → Option Value) : Prop where
  «KINDS» : Cst K mg "KINDS" (.tup [.str "n", .str "p"])
  «MOST_CHARACTERS» : Cst K mg "MOST_CHARACTERS" (.int 12)
  «MOST_DEVICES» : Cst K mg "MOST_DEVICES" (.int 200)
  «MOST_DIGITS» : Cst K mg "MOST_DIGITS" (.int 30)
  «MOST_NETS» : Cst K mg "MOST_NETS" (.int 200)
structure Lt (K : PySem.W.Frag) (mg : Str → Option Value) : Prop where
  «Circuit» : Kl K mg "Circuit" ["net_count", "names", "devices", "_name_table"]
section
variable {P : Program} {w : World} {K : PySem.W.Frag} {mg : Str → Option Value} {base : Heap}
/-! is_name -/
abbrev s_is_name : Stmt := top 7
theorem sc_is_name : FnScope ["name", "sign"] ["name"] (defScope s_is_name) := ⟨rfl, rfl, rfl, by decide +kernel, rfl, by decide +kernel, by decide +kernel⟩
theorem ok_is_name {f : Addr} {fd : FuncData} (F : Fun K "is_name" "is_name" s_is_name f fd) (B : Bt mg) (KC : Kt K mg) (KL : Lt K mg)  :
    FnOk P w K mg base CX0 1 f fd ["name"] (spR K R_is_name) := by
  refine fn_ok (k := 0) F sc_is_name (fun ds d h => by cases h; rfl) fun ds d hR cdv A outer s H E hr => ?_
  have nd := sc_is_name.nd
  have hu := hr.units
  rcases hR with ⟨x, hx⟩
  walk_at "en"
  refine ws_cons (ws_if (td_tw (tw_or (td_not (td_chain ed_int (ed_callB (id := "len") (by rfl) B.«len» bb_len (ad_cons (ed_var 0 rfl) ad_nil) (bc_lenS hx)) (ed_const KC.«MOST_CHARACTERS» (by rfl)) (by walk_at "c2") (by walk_at "c2"))) (fun hb2 => (tw_or1 (td_not (TD.eq (td_chain ed_str (ed_ixS (c := x.cps.toList.getD 0 0) (ed_var 0 rfl) ed_int hx (at_first hb2)) ed_str (by walk_at "c2") (by walk_at "c2")) (chA _))))))) (fun hc1 => ?_) (fun hc1 => ?_))
  · skip
    have hf := name_no hc1
    refine ws_cons (ws_ret (ED.eq ed_bl ?_) (Or.inl rfl))
    rw [hf]
  · skip
    have hf := name_yes hc1
    refine ws_nil ?_
    refine ws_cons (ws_ret (ED.eq (ed_callB (id := "all") (by rfl) B.«all» bb_all (ad_cons (ed_lst (eo_map2 [("sign", 1)] (x.cps.toList) (fun c => D.str (sgn c)) (chB) (D.bl) rfl nd (blkOk_by (N := ["name", "sign"]) (sc := defScope s_is_name) (by decide +kernel)) (id_str (ed_var 0 rfl)) (rfl) (fun c hxm => ⟨_, by rfl, fun _ _ _ _ _ => ⟨(dg_name 1 nd), tds_nil, (ed_or (ED.eq (ed_chain ed_str (ed_var 1 rfl) ed_str (by walk_at "c2") (by walk_at "c2")) (show _ = (D.bl (loB c)) from by exact congrArg D.bl (chA c))) (fun hb4 => (ed_one (ED.eq (ed_chain ed_str (ed_var 1 rfl) ed_str (by walk_at "c2") (by walk_at "c2")) (show _ = (D.bl (decide (48 ≤ c) && decide (c ≤ 57))) from by exact congrArg D.bl (ch0 c))))))⟩⟩) (by rw [Array.length_toList]; exact hx))) ad_nil) (bc_all rfl)) ?_) (Or.inl rfl))
    rw [hf]
/-! is_net_count -/
abbrev s_is_net_count : Stmt := top 12
theorem sc_is_net_count : FnScope ["net_count"] ["net_count"] (defScope s_is_net_count) := ⟨rfl, rfl, rfl, by decide +kernel, rfl, by decide +kernel, by decide +kernel⟩
theorem ok_is_net_count {f : Addr} {fd : FuncData} (F : Fun K "is_net_count" "is_net_count" s_is_net_count f fd) (B : Bt mg) (KC : Kt K mg) (KL : Lt K mg)  :
    FnOk P w K mg base CX0 1 f fd ["net_count"] (spR K R_is_net_count) := by
  refine fn_ok (k := 0) F sc_is_net_count (fun ds d h => by cases h; rfl) fun ds d hR cdv A outer s H E hr => ?_
  have nd := sc_is_net_count.nd
  have hu := hr.units
  cases hR
  walk_at "en"
  refine ws_cons (ws_ret (ED.eq (ed_chain ed_int (ed_var 0 rfl) (ed_const KC.«MOST_NETS» (by rfl)) (by walk_at "c2") (by walk_at "c2")) ?_) (Or.inl rfl))
  rfl
/-! is_device -/
abbrev s_is_device : Stmt := top 13
theorem sc_is_device : FnScope ["device", "net_count", "kind", "gate", "end", "other", "width", "length"] ["device", "net_count"] (defScope s_is_device) := ⟨rfl, rfl, rfl, by decide +kernel, rfl, by decide +kernel, by decide +kernel⟩
theorem ok_is_device {f : Addr} {fd : FuncData} (F : Fun K "is_device" "is_device" s_is_device f fd) (B : Bt mg) (KC : Kt K mg) (KL : Lt K mg)  :
    FnOk P w K mg base CX0 1 f fd ["device", "net_count"] (spR K R_is_device) := by
  refine fn_ok (k := 0) F sc_is_device (fun ds d h => by cases h; rfl) fun ds d hR cdv A outer s H E hr => ?_
  have nd := sc_is_device.nd
  have hu := hr.units
  rcases hR with ⟨v, n, b, hb⟩
  walk_at "en"
  refine ws_cons (ws_unpack (ed_var 0 rfl) (dg_tup rfl (dgs_cons (dg_name 2 nd) (dgs_cons (dg_name 3 nd) (dgs_cons (dg_name 4 nd) (dgs_cons (dg_name 5 nd) (dgs_cons (dg_name 6 nd) (dgs_cons (dg_name 7 nd) dgs_nil))))))) ?_)
  walk_at "env"
  refine ws_cons (ws_ret (ED.eq (ed_and (ed_cmp (ed_var 2 rfl) (ed_const KC.«KINDS» (by rfl)) (c2_inStr (ys := ["n", "p"]) (.tup _)) (by rfl)) (fun hb4 => (ed_and (ed_chain ed_int (ed_var 3 rfl) (ed_var 1 rfl) (by walk_at "c2") (by walk_at "c2")) (fun hb3 => (ed_and (ed_chain3 ed_int (ed_var 4 rfl) (ed_var 5 rfl) (ed_var 1 rfl) (by walk_at "c2") (by walk_at "c2") (by walk_at "c2")) (fun hb2 => (ed_and (ed_cmp (ed_var 6 rfl) ed_int (by walk_at "c2")) (fun hb1 => (ed_one (ed_cmp (ed_var 7 rfl) ed_int (by walk_at "c2"))))))))))) ?_) (Or.inl rfl))
  subst hb; rfl
/-! are_names -/
abbrev s_are_names : Stmt := top 14
theorem sc_are_names : FnScope ["names", "net_count", "net", "name", "_"] ["names", "net_count"] (defScope s_are_names) := ⟨rfl, rfl, rfl, by decide +kernel, rfl, by decide +kernel, by decide +kernel⟩
theorem ok_are_names {f : Addr} {fd : FuncData} (F : Fun K "are_names" "are_names" s_are_names f fd) (B : Bt mg) (KC : Kt K mg) (KL : Lt K mg) (G_is_name : Fn P w K mg base "is_name" 1 R_is_name) :
    FnOk P w K mg base CX0 2 f fd ["names", "net_count"] (spR K R_are_names) := by
  refine fn_ok (k := 1) F sc_are_names (fun ds d h => by cases h; rfl) fun ds d hR cdv A outer s H E hr => ?_
  have nd := sc_are_names.nd
  have hu := hr.units
  rcases hR with ⟨d, N, n, hd, hN, hz⟩
  walk_at "en"
  refine ws_cons (ws_ret (ED.eq (ed_and (ed_callB (id := "all") (by rfl) B.«all» bb_all (ad_cons (ed_lst (eo_map2 [("net", 2), ("name", 3)] (N) (nmE) (fun q : Nm => (decide (0 ≤ q.1) && decide (q.1 < n)) && nameB q.2) (D.bl) rfl nd (blkOk_by (N := ["names", "net_count", "net", "name", "_"]) (sc := defScope s_are_names) (by decide +kernel)) (id_seq hd (ed_var 0 rfl)) (rfl) (fun q hxm => ⟨_, by rfl, fun _ _ _ _ _ => ⟨(dg_tup rfl (dgs_cons (dg_name 2 nd) (dgs_cons (dg_name 3 nd) dgs_nil))), tds_nil, (ed_and (ed_chain ed_int (ed_var 2 rfl) (ed_var 1 rfl) (by walk_at "c2") (by walk_at "c2")) (fun hb5 => (ed_one (ed_call G_is_name (hr.mono (by decide)) (by rfl) (ad_cons (ed_var 3 rfl) ad_nil) (by exact .mk _ (by have := hz q hxm; rw [sizeLine_eq]; omega))))))⟩⟩) (by rw [sizeLine_eq]; omega))) ad_nil) (bc_all rfl)) (fun hb6 => (ed_and (ed_cmp (ed_lenSetK (by rfl) (by rfl) B.«len» (by rfl) B.«set» (ed_lst (eo_map2 [("net", 2), ("_", 4)] (N) (nmE) (fun q : Nm => (Sum.inl q.1 : Key)) (kD) rfl nd (blkOk_by (N := ["names", "net_count", "net", "name", "_"]) (sc := defScope s_are_names) (by decide +kernel)) (id_seq hd (ed_var 0 rfl)) (rfl) (fun q hxm => ⟨_, by rfl, fun _ _ _ _ _ => ⟨(dg_tup rfl (dgs_cons (dg_name 2 nd) (dgs_cons (dg_name 4 nd) dgs_nil))), tds_nil, (ed_var 2 rfl)⟩⟩) (by rw [sizeLine_eq]; omega))) (by rw [List.length_map]; omega)) (ed_callB (id := "len") (by rfl) B.«len» bb_len (ad_cons (ed_var 0 rfl) ad_nil) ((bc_lenSeq hd))) (by walk_at "c2")) (fun hb3 => (ed_one (ed_cmp (ed_lenSetK (by rfl) (by rfl) B.«len» (by rfl) B.«set» (ed_lst (eo_map2 [("_", 4), ("name", 3)] (N) (nmE) (fun q : Nm => (Sum.inr q.2 : Key)) (kD) rfl nd (blkOk_by (N := ["names", "net_count", "net", "name", "_"]) (sc := defScope s_are_names) (by decide +kernel)) (id_seq hd (ed_var 0 rfl)) (rfl) (fun q hxm => ⟨_, by rfl, fun _ _ _ _ _ => ⟨(dg_tup rfl (dgs_cons (dg_name 4 nd) (dgs_cons (dg_name 3 nd) dgs_nil))), tds_nil, (ed_var 3 rfl)⟩⟩) (by rw [sizeLine_eq]; omega))) (by rw [List.length_map]; omega)) (ed_callB (id := "len") (by rfl) B.«len» bb_len (ad_cons (ed_var 0 rfl) ad_nil) ((bc_lenSeq hd))) (by walk_at "c2"))))))) ?_) (Or.inl rfl))
  rw [namesB_eq]
/-! Circuit.__init__ -/
abbrev s_Circuit_init : Stmt := inClass (top 15) 0
theorem sc_Circuit_init : FnScope ["self", "net_count", "names", "devices", "device"] ["self", "net_count", "names", "devices"] (defScope s_Circuit_init) := ⟨rfl, rfl, rfl, by decide +kernel, rfl, by decide +kernel, by decide +kernel⟩
theorem ok_Circuit_init {f : Addr} {fd : FuncData} (F : Fun K "__init__" "Circuit.__init__" s_Circuit_init f fd) (B : Bt mg) (KC : Kt K mg) (KL : Lt K mg) (G_are_names : Fn P w K mg base "are_names" 2 R_are_names) (G_is_device : Fn P w K mg base "is_device" 1 R_is_device) (G_is_net_count : Fn P w K mg base "is_net_count" 1 R_is_net_count) :
    FnOk P w K mg base CX0 3 f fd ["self", "net_count", "names", "devices"] (spI K "Circuit" R_Circuit_init) := by
  refine fn_okI (k := 2) F sc_Circuit_init (fun ds ns es h => by cases h; rfl) fun a0 ds ns es hR cdv A outer s H E hr => ?_
  have nd := sc_Circuit_init.nd
  have hu := hr.units
  rcases hR with ⟨n, N, V, dN, dV, hN, hV, ok⟩
  walk_at "en"
  refine ws_cons (ws_if (td_not (td_truth (ed_call G_is_net_count (hr.mono (by decide)) (by rfl) (ad_cons (ed_var 1 rfl) ad_nil) (by walk_at "mk")) rfl)) (fun hc1 => ?_) (fun hc1 => ?_))
  · skip
    exfalso; have := ok.nn; simp at hc1; omega
  · skip
    clear hc1
    refine ws_nil ?_
    refine ws_cons (ws_if (td_not (td_truth (ed_call G_are_names (hr.mono (by decide)) (by rfl) (ad_cons (ed_var 2 rfl) (ad_cons (ed_var 1 rfl) ad_nil)) (by exact .mk _ _ _ hN ok.nl ok.short)) rfl)) (fun hc2 => ?_) (fun hc2 => ?_))
    · skip
      exfalso; rw [ok.namesB] at hc2; cases hc2
    · skip
      clear hc2
      refine ws_nil ?_
      refine ws_cons (ws_if (td_cmp (ed_callB (id := "len") (by rfl) B.«len» bb_len (ad_cons (ed_var 3 rfl) ad_nil) ((bc_lenSeq hV))) (ed_const KC.«MOST_DEVICES» (by rfl)) (by walk_at "c2")) (fun hc3 => ?_) (fun hc3 => ?_))
      · skip
        exfalso; have := ok.vl; simp at hc3; omega
      · skip
        clear hc3
        refine ws_nil ?_
        refine ws_cons (ws_if (td_not (td_truth (ed_callB (id := "all") (by rfl) B.«all» bb_all (ad_cons (ed_lst (eo_map2 [("device", 4)] (V) (Dev.e) (fun _ : Dev => true) (D.bl) rfl nd (blkOk_by (N := ["self", "net_count", "names", "devices", "device"]) (sc := defScope s_Circuit_init) (by decide +kernel)) (id_seq hV (ed_var 3 rfl)) (rfl) (fun v hxm => ⟨_, by rfl, fun _ _ _ _ _ => ⟨(dg_name 4 nd), tds_nil, (ed_call G_is_device (hr.mono (by decide)) (by rfl) (ad_cons (ed_var 4 rfl) (ad_cons (ed_var 1 rfl) ad_nil)) (by exact .mk _ _ _ (dev_ok (ok.dv v hxm)).symm))⟩⟩) (by have := ok.vl; rw [sizeLine_eq]; omega))) ad_nil) (bc_all rfl)) rfl)) (fun hc4 => ?_) (fun hc4 => ?_))
        · skip
          exfalso; simp at hc4
        · skip
          clear hc4
          refine ws_nil ?_
          refine ws_cons (ws_setF 0 KL.«Circuit» rfl (ed_var 1 rfl) ?_)
          simp only [List.cons_append, List.nil_append]
          walk_at "env"
          refine ws_cons (ws_setF 0 KL.«Circuit» rfl (ed_tupX (by rfl) B.«tuple» (ed_lst (eo_sortedD (by rfl) B.«sorted» hN (ed_var 2 rfl) (nm_sort hu)))) ?_)
          simp only [List.cons_append, List.nil_append]
          walk_at "env"
          refine ws_cons (ws_setF 0 KL.«Circuit» rfl (ed_callT (T := "tuple") (by rfl) B.«tuple» bb_tuple (ad_cons (ed_var 3 rfl) ad_nil) ((bc_tupSeq hV))) ?_)
          simp only [List.cons_append, List.nil_append]
          walk_at "env"
          refine ws_cons (ws_setF 0 KL.«Circuit» rfl (ed_own (eo_dictP (kds := (srtN N).map nmK) (by rfl) (by rfl) B.«dict» ok.keys (ED.eq (ed_fldO 0 1 KL.«Circuit» rfl) (by show D.ptp ((srtN N).map nmE) = _; rw [nmK_D])))) ?_)
          simp only [List.cons_append, List.nil_append]
          walk_at "env"
          refine ws_nil ?_
          exact ⟨_, _, rfl, rfl, cirWk⟩
/-! Circuit.__eq__ -/
abbrev s_Circuit_eq : Stmt := inClass (top 15) 3
theorem sc_Circuit_eq : FnScope ["self", "other"] ["self", "other"] (defScope s_Circuit_eq) := ⟨rfl, rfl, rfl, by decide +kernel, rfl, by decide +kernel, by decide +kernel⟩
theorem ok_Circuit_eq {f : Addr} {fd : FuncData} (F : Fun K "__eq__" "Circuit.__eq__" s_Circuit_eq f fd) (B : Bt mg) (KC : Kt K mg) (KL : Lt K mg)  :
    FnOk P w K mg base CX0 1 f fd ["self", "other"] (spR K R_Circuit_eq) := by
  refine fn_ok (k := 0) F sc_Circuit_eq (fun ds d h => by cases h; rfl) fun ds d hR cdv A outer s H E hr => ?_
  have nd := sc_Circuit_eq.nd
  have hu := hr.units
  rcases hR with ⟨n, m, N, M, V, W, ok1, ok2⟩
  walk_at "en"
  refine ws_cons (ws_ret (ED.eq (ed_and (ed_isC KL.«Circuit» (by rfl) B.«isinstance» (by rfl) (ed_var 1 rfl)) (fun hb3 => (ed_and (ed_cmp (ed_fld 0 KL.«Circuit» (ed_var 0 rfl)) (ed_fld 0 KL.«Circuit» (ed_var 1 rfl)) (by walk_at "c2")) (fun hb2 => (ed_and (ed_cmp (ed_fld 1 KL.«Circuit» (ed_var 0 rfl)) (ed_fld 1 KL.«Circuit» (ed_var 1 rfl)) (c2_eqNm (k := decide (srtN N = srtN M)) hu (srt_names ok1) (srt_names ok2) (by simp)) (by rfl)) (fun hb1 => (ed_one (ed_cmp (ed_fld 2 KL.«Circuit» (ed_var 0 rfl)) (ed_fld 2 KL.«Circuit» (ed_var 1 rfl)) (c2_eqDev (k := decide (V = W)) hu ok1.dv ok2.dv (by simp)) (by rfl))))))))) ?_) (Or.inl rfl))
  rfl
/-! is_integer -/
abbrev s_is_integer : Stmt := top 18
theorem sc_is_integer : FnScope ["word", "digits"] ["word"] (defScope s_is_integer) := ⟨rfl, rfl, rfl, by decide +kernel, rfl, by decide +kernel, by decide +kernel⟩
theorem ok_is_integer {f : Addr} {fd : FuncData} (F : Fun K "is_integer" "is_integer" s_is_integer f fd) (B : Bt mg) (KC : Kt K mg) (KL : Lt K mg)  :
    FnOk P w K mg base CX0 1 f fd ["word"] (spR K R_is_integer) := by
  refine fn_ok (k := 0) F sc_is_integer (fun ds d h => by cases h; rfl) fun ds d hR cdv A outer s H E hr => ?_
  have nd := sc_is_integer.nd
  have hu := hr.units
  rcases hR with ⟨i, hi⟩
  have hl := hi.len
  walk_at "en"
  refine ws_cons (ws_set 1 nd (ED.eq (ed_ifv (td_truth (ED.eq (ed_starts (ed_var 0 rfl) ed_str) (show _ = D.bl false by rw [hi.starts])) rfl) (fun hc1 => (show ED _ _ _ (D.str "") from by contradiction)) (fun hc1 => (ed_var 0 rfl))) (show _ = (D.str (stI i)) from by rfl)) ?_)
  walk_at "env"
  refine ws_cons (ws_if (td_tw (tw_or (td_not (td_truth (ED.eq (ed_isdigit (ed_var 1 rfl)) (show _ = D.bl true by rw [hi.isdigit])) rfl)) (fun hb3 => (tw_or1 (td_cmp (ed_callB (id := "len") (by rfl) B.«len» bb_len (ad_cons (ed_var 1 rfl) ad_nil) (bc_lenS (by rw [sizeLine_eq]; omega))) (ed_const KC.«MOST_DIGITS» (by rfl)) (by walk_at "c2")))))) (fun hc2 => ?_) (fun hc2 => ?_))
  · skip
    exfalso; simp at hc2; omega
  · skip
    clear hc2
    refine ws_nil ?_
    refine ws_cons (ws_ret (ED.eq (ed_or (ed_cmp (ed_var 0 rfl) ed_str (by walk_at "c2")) (fun hb4 => (ed_one (ed_cmp (ed_ixS (c := (stI i).cps.toList.getD 0 0) (ed_var 1 rfl) ed_int (by rw [sizeLine_eq]; omega) (at_head hi)) ed_str (by walk_at "c2"))))) ?_) (Or.inl rfl))
    exact congrArg D.bl hi.head
/-! read_integers -/
abbrev s_read_integers : Stmt := top 19
theorem sc_read_integers : FnScope ["words", "word"] ["words"] (defScope s_read_integers) := ⟨rfl, rfl, rfl, by decide +kernel, rfl, by decide +kernel, by decide +kernel⟩
theorem ok_read_integers {f : Addr} {fd : FuncData} (F : Fun K "read_integers" "read_integers" s_read_integers f fd) (B : Bt mg) (KC : Kt K mg) (KL : Lt K mg) (G_is_integer : Fn P w K mg base "is_integer" 1 R_is_integer) :
    FnOk P w K mg base CX0 2 f fd ["words"] (spR K R_read_integers) := by
  refine fn_ok (k := 1) F sc_read_integers (fun ds d h => by cases h; rfl) fun ds d hR cdv A outer s H E hr => ?_
  have nd := sc_read_integers.nd
  have hu := hr.units
  rcases hR with ⟨ns, hz, hl⟩
  walk_at "en"
  refine ws_cons (ws_if (td_not (td_truth (ed_callB (id := "all") (by rfl) B.«all» bb_all (ad_cons (ed_lst (eo_map2 [("word", 1)] (ns) (fun i : Int => D.str (stI i)) (fun _ => true) (D.bl) rfl nd (blkOk_by (N := ["words", "word"]) (sc := defScope s_read_integers) (by decide +kernel)) (id_list (ed_var 0 rfl)) (rfl) (fun i hxm => ⟨_, by rfl, fun _ _ _ _ _ => ⟨(dg_name 1 nd), tds_nil, (ed_call G_is_integer (hr.mono (by decide)) (by rfl) (ad_cons (ed_var 1 rfl) ad_nil) (by exact .mk _ (hz i hxm)))⟩⟩) (by rw [sizeLine_eq]; omega))) ad_nil) (bc_all rfl)) rfl)) (fun hc1 => ?_) (fun hc1 => ?_))
  · skip
    exfalso; simp at hc1
  · skip
    clear hc1
    refine ws_nil ?_
    refine ws_cons (ws_ret (ED.eq (ed_callT (T := "tuple") (by rfl) B.«tuple» bb_tuple (ad_cons (ed_lst (eo_map2 [("word", 1)] (ns) (fun i : Int => D.str (stI i)) (id) (D.int) rfl nd (blkOk_by (N := ["words", "word"]) (sc := defScope s_read_integers) (by decide +kernel)) (id_list (ed_var 0 rfl)) (rfl) (fun i hxm => ⟨_, by rfl, fun _ _ _ _ _ => ⟨(dg_name 1 nd), tds_nil, (ed_callT (T := "int") (by rfl) B.«int» bb_int (ad_cons (ed_var 1 rfl) ad_nil) (bc_intS (hz i hxm).int (Nat.le_trans (hz i hxm).len (by decide))))⟩⟩) (by rw [sizeLine_eq]; omega))) ad_nil) (by walk_at "bc")) ?_) (Or.inl rfl))
    rw [List.map_id]
/-! device_line -/
abbrev s_device_line : Stmt := top 21
theorem sc_device_line : FnScope ["device", "kind", "gate", "end", "other", "width", "length"] ["device"] (defScope s_device_line) := ⟨rfl, rfl, rfl, by decide +kernel, rfl, by decide +kernel, by decide +kernel⟩
theorem ok_device_line {f : Addr} {fd : FuncData} (F : Fun K "device_line" "device_line" s_device_line f fd) (B : Bt mg) (KC : Kt K mg) (KL : Lt K mg)  :
    FnOk P w K mg base CX0 1 f fd ["device"] (spR K R_device_line) := by
  refine fn_ok (k := 0) F sc_device_line (fun ds d h => by cases h; rfl) fun ds d hR cdv A outer s H E hr => ?_
  have nd := sc_device_line.nd
  have hu := hr.units
  rcases hR with ⟨v, h⟩
  have h0 := kind_len h
  have h1 := h.g.sm
  have h2 := h.a.sm
  have h3 := h.b.sm
  have h4 := h.w.sm
  have h5 := h.l.sm
  have k1 := h1.len
  have k2 := h2.len
  have k3 := h3.len
  have k4 := h4.len
  have k5 := h5.len
  obtain ⟨e1, e2, e3, e4⟩ := litC_len
  walk_at "en"
  refine ws_cons (ws_unpack (ed_var 0 rfl) (dg_tup rfl (dgs_cons (dg_name 1 nd) (dgs_cons (dg_name 2 nd) (dgs_cons (dg_name 3 nd) (dgs_cons (dg_name 4 nd) (dgs_cons (dg_name 5 nd) (dgs_cons (dg_name 6 nd) dgs_nil))))))) ?_)
  walk_at "env"
  refine ws_cons (ws_ret (ED.eq (ed_fs (fs_cons ed_str (fs_cons (by first | exact fm_s (ed_var 1 rfl) (by rw [sizeLine_eq]; omega) | exact fm_i (ed_var 1 rfl) (by exact Sm.log (by assumption))) (fs_cons ed_str (fs_cons (by first | exact fm_s (ed_var 2 rfl) (by rw [sizeLine_eq]; omega) | exact fm_i (ed_var 2 rfl) (by exact Sm.log (by assumption))) (fs_cons ed_str (fs_cons (by first | exact fm_s (ed_var 3 rfl) (by rw [sizeLine_eq]; omega) | exact fm_i (ed_var 3 rfl) (by exact Sm.log (by assumption))) (fs_cons ed_str (fs_cons (by first | exact fm_s (ed_var 4 rfl) (by rw [sizeLine_eq]; omega) | exact fm_i (ed_var 4 rfl) (by exact Sm.log (by assumption))) (fs_cons ed_str (fs_cons (by first | exact fm_s (ed_var 5 rfl) (by rw [sizeLine_eq]; omega) | exact fm_i (ed_var 5 rfl) (by exact Sm.log (by assumption))) (fs_cons ed_str (fs_cons (by first | exact fm_s (ed_var 6 rfl) (by rw [sizeLine_eq]; omega) | exact fm_i (ed_var 6 rfl) (by exact Sm.log (by assumption))) fs_nil)))))))))))) (by simp only [sumL_cons, sumL_nil, stI] at *; rw [sizeLine_eq]; omega)) ?_) (Or.inl rfl))
  exact congrArg D.str (cat_V v)
/-! format_circuit -/
abbrev s_format_circuit : Stmt := top 22
theorem sc_format_circuit : FnScope ["circuit", "lines", "net", "name", "device"] ["circuit"] (defScope s_format_circuit) := ⟨rfl, rfl, rfl, by decide +kernel, rfl, by decide +kernel, by decide +kernel⟩
theorem ok_format_circuit {f : Addr} {fd : FuncData} (F : Fun K "format_circuit" "format_circuit" s_format_circuit f fd) (B : Bt mg) (KC : Kt K mg) (KL : Lt K mg) (G_device_line : Fn P w K mg base "device_line" 1 R_device_line) :
    FnOk P w K mg base CX0 2 f fd ["circuit"] (spR K R_format_circuit) := by
  refine fn_ok (k := 1) F sc_format_circuit (fun ds d h => by cases h; rfl) fun ds d hR cdv A outer s H E hr => ?_
  have nd := sc_format_circuit.nd
  have hu := hr.units
  rcases hR with ⟨n, N, V, t⟩
  have hnl := t.ok.nl
  have hvl := t.ok.vl
  have s0 := t.n.sm
  have k0 := s0.len
  obtain ⟨e1, e2, e3, e4⟩ := litC_len
  walk_at "en"
  refine ws_cons (ws_setO 1 nd (eo_lst (ad_cons (ED.eq (ed_fs (fs_cons ed_str (fs_cons (by first | exact fm_s (ed_fld 0 KL.«Circuit» (ed_var 0 rfl)) (by rw [sizeLine_eq]; omega) | exact fm_i (ed_fld 0 KL.«Circuit» (ed_var 0 rfl)) (by exact Sm.log (by assumption))) fs_nil)) (by simp only [sumL_cons, sumL_nil, stI] at *; rw [sizeLine_eq]; omega)) (show _ = (D.str (lnW (wN n))) from by rw [cat_N])) ad_nil)) ?_)
  walk_at "env"
  refine ws_cons (ws_extendL 1 rfl (eo_map2 [("net", 2), ("name", 3)] (srtN N) (nmE) (fun q : Nm => lnW (wQ q)) (D.str) rfl nd (blkOk_by (N := ["circuit", "lines", "net", "name", "device"]) (sc := defScope s_format_circuit) (by decide +kernel)) (id_tup (ed_fld 1 KL.«Circuit» (ed_var 0 rfl))) (rfl) (fun q hxm => by have hq := t.q hxm; have s1 := hq.1.sm; have k1 := s1.len; have k2 := nameB_len hq.2; exact ⟨_, by rfl, fun _ _ _ _ _ => ⟨(dg_tup rfl (dgs_cons (dg_name 2 nd) (dgs_cons (dg_name 3 nd) dgs_nil))), tds_nil, (ED.eq (ed_fs (fs_cons ed_str (fs_cons (by first | exact fm_s (ed_var 3 rfl) (by rw [sizeLine_eq]; omega) | exact fm_i (ed_var 3 rfl) (by exact Sm.log (by assumption))) (fs_cons ed_str (fs_cons (by first | exact fm_s (ed_var 2 rfl) (by rw [sizeLine_eq]; omega) | exact fm_i (ed_var 2 rfl) (by exact Sm.log (by assumption))) fs_nil)))) (by simp only [sumL_cons, sumL_nil, stI] at *; rw [sizeLine_eq]; omega)) (show _ = (D.str (lnW (wQ q))) from by rw [cat_Q]))⟩⟩) (by rw [sizeLine_eq]; omega)) (by simp only [List.length_append, List.length_map, List.length_cons, List.length_nil]; rw [sizeLine_eq]; omega) ?_ (fun h => ps_expr (pe_bm PySem.F.plainAttrs_list PySem.F.slot_list_extend PySem.F.type_list_extend mt_extend (pv 1) h)))
  walk_at "env"
  refine ws_cons (ws_extendL 1 rfl (eo_map2 [("device", 4)] (V) (Dev.e) (fun v : Dev => lnW (wV v)) (D.str) rfl nd (blkOk_by (N := ["circuit", "lines", "net", "name", "device"]) (sc := defScope s_format_circuit) (by decide +kernel)) (id_tup (ed_fld 2 KL.«Circuit» (ed_var 0 rfl))) (rfl) (fun v hxm => ⟨_, by rfl, fun _ _ _ _ _ => ⟨(dg_name 4 nd), tds_nil, (ed_call G_device_line (hr.mono (by decide)) (by rfl) (ad_cons (ed_var 4 rfl) ad_nil) (by exact .mk _ (t.v hxm)))⟩⟩) (by rw [sizeLine_eq]; omega)) (by simp only [List.length_append, List.length_map, List.length_cons, List.length_nil]; rw [sizeLine_eq]; omega) ?_ (fun h => ps_expr (pe_bm PySem.F.plainAttrs_list PySem.F.slot_list_extend PySem.F.type_list_extend mt_extend (pv 1) h)))
  walk_at "env"
  refine ws_share 1 rfl ?_
  walk_at "env"
  refine ws_cons (ws_ret (ED.eq (ed_join ed_str (.lst _) (ED.eq (ed_var 1 rfl) (show _ = D.lst (((wsC n (srtN N) V).map lnW).map .str) by simp [wsC]; rfl)) (by have := tx_room t; omega)) ?_) (Or.inl rfl))
  rfl
/-! net_count_in -/
abbrev s_net_count_in : Stmt := top 23
theorem sc_net_count_in : FnScope ["words", "numbers"] ["words"] (defScope s_net_count_in) := ⟨rfl, rfl, rfl, by decide +kernel, rfl, by decide +kernel, by decide +kernel⟩
theorem ok_net_count_in {f : Addr} {fd : FuncData} (F : Fun K "net_count_in" "net_count_in" s_net_count_in f fd) (B : Bt mg) (KC : Kt K mg) (KL : Lt K mg) (G_is_net_count : Fn P w K mg base "is_net_count" 1 R_is_net_count) (G_read_integers : Fn P w K mg base "read_integers" 2 R_read_integers) :
    FnOk P w K mg base CX0 3 f fd ["words"] (spR K R_net_count_in) := by
  refine fn_ok (k := 2) F sc_net_count_in (fun ds d h => by cases h; rfl) fun ds d hR cdv A outer s H E hr => ?_
  have nd := sc_net_count_in.nd
  have hu := hr.units
  rcases hR with ⟨n, hn⟩
  walk_at "en"
  refine ws_cons (ws_set 1 nd (ed_call G_read_integers (hr.mono (by decide)) (by rfl) (ad_cons (ED.eq (ed_lst (eo_slice (ed_var 0 rfl) (some_part ed_int) no_part)) (show _ = (D.lst (([n] : List Int).map fun i => D.str (stI i))) from by rfl)) ad_nil) (by exact .mk [n] (by intro i hi; rw [List.mem_singleton.mp hi]; exact ⟨by omega⟩) (by simp))) ?_)
  walk_at "env"
  refine ws_cons (ws_if (td_tw (tw_or (td_cmp (ed_callB (id := "len") (by rfl) B.«len» bb_len (ad_cons (ed_var 0 rfl) ad_nil) (by walk_at "bc")) ed_int (by walk_at "c2")) (fun hb3 => (tw_or (td_cmp (ed_ix (ed_var 0 rfl) ed_int (by walk_at "ix")) ed_str (by walk_at "c2")) (fun hb2 => (tw_or1 (td_cmp (ed_var 1 rfl) ed_non (by walk_at "c2")))))))) (fun hc1 => ?_) (fun hc1 => ?_))
  · skip
    exfalso; simp [wN, isNon] at hc1
  · skip
    clear hc1
    refine ws_nil ?_
    refine ws_cons (ws_ret (ED.eq (ED.eq (ed_ifv (td_truth (ed_call G_is_net_count (hr.mono (by decide)) (by rfl) (ad_cons (ed_ix (ed_var 1 rfl) ed_int (by walk_at "ix")) ad_nil) (by walk_at "mk")) rfl) (fun hc4 => (ed_ix (ed_var 1 rfl) ed_int (by walk_at "ix"))) (fun hc4 => ed_non)) (show _ = (D.int n) from by rw [if_pos (by simp; omega)])) ?_) (Or.inl rfl))
    rfl
/-! name_in#q -/
abbrev s_name_in_q : Stmt := top 24
theorem sc_name_in_q : FnScope ["words", "net_count", "names", "numbers", "name", "net", "last_net", "_", "other"] ["words", "net_count", "names"] (defScope s_name_in_q) := ⟨rfl, rfl, rfl, by decide +kernel, rfl, by decide +kernel, by decide +kernel⟩
theorem ok_name_in_q {f : Addr} {fd : FuncData} (F : Fun K "name_in" "name_in" s_name_in_q f fd) (B : Bt mg) (KC : Kt K mg) (KL : Lt K mg) (G_is_name : Fn P w K mg base "is_name" 1 R_is_name) (G_read_integers : Fn P w K mg base "read_integers" 2 R_read_integers) :
    FnOk P w K mg base CX0 3 f fd ["words", "net_count", "names"] (spR K R_name_in_q) := by
  refine fn_ok (k := 2) F sc_name_in_q (fun ds d h => by cases h; rfl) fun ds d hR cdv A outer s H E hr => ?_
  have nd := sc_name_in_q.nd
  have hu := hr.units
  rcases hR with ⟨n, dn, q, hlt, hq, hn, hnm, hnew, hl⟩
  walk_at "en"
  refine ws_cons (ws_set 3 nd (ed_call G_read_integers (hr.mono (by decide)) (by rfl) (ad_cons (ED.eq (ed_lst (eo_slice (ed_var 0 rfl) (some_part ed_int) no_part)) (show _ = (D.lst (([q.1] : List Int).map fun i => D.str (stI i))) from by rfl)) ad_nil) (by exact .mk [q.1] (by intro i hi; rw [List.mem_singleton.mp hi]; exact rd_small hq hn) (by simp))) ?_)
  walk_at "env"
  refine ws_cons (ws_if (td_tw (tw_or (td_cmp (ed_callB (id := "len") (by rfl) B.«len» bb_len (ad_cons (ed_var 0 rfl) ad_nil) (by walk_at "bc")) ed_int (by walk_at "c2")) (fun hb3 => (tw_or (td_cmp (ed_ix (ed_var 0 rfl) ed_int (by walk_at "ix")) ed_str (by walk_at "c2")) (fun hb2 => (tw_or1 (td_cmp (ed_var 3 rfl) ed_non (by walk_at "c2")))))))) (fun hc1 => ?_) (fun hc1 => ?_))
  · skip
    exfalso; simp [wQ, isNon] at hc1
  · skip
    clear hc1
    refine ws_nil ?_
    refine ws_cons (ws_par 4 5 rfl nd (ad_cons (ed_ix (ed_var 0 rfl) ed_int (by walk_at "ix")) (ad_cons (ed_ix (ed_var 3 rfl) ed_int (by walk_at "ix")) ad_nil)) ?_)
    walk_at "env"
    refine ws_cons (ws_set 6 nd (ED.eq (ed_ifI (td_truth (ed_var 2 rfl) rfl) (fun hc4 => (ed_ix (ed_ix (ed_var 2 rfl) (ed_neg ed_int) (.l (at_lastN (dn := dn) (fun z => by simp_all)))) ed_int (by walk_at "ix"))) (fun hc4 => (ed_neg ed_int))) (show _ = (D.int (lastN dn)) from by rw [last_if])) ?_)
    walk_at "env"
    refine ws_cons (ws_if (td_tw (tw_or (td_not (td_chain (ed_var 6 rfl) (ed_var 5 rfl) (ed_var 1 rfl) (by walk_at "c2") (by walk_at "c2"))) (fun hb8 => (tw_or (td_not (td_truth (ed_call G_is_name (hr.mono (by decide)) (by rfl) (ad_cons (ed_var 4 rfl) ad_nil) (by exact .mk _ (by have := nameB_len hnm; rw [sizeLine_eq]; omega))) rfl)) (fun hb7 => (tw_or1 (td_cmp (ed_var 4 rfl) (ed_lst (eo_map2 [("_", 7), ("other", 8)] (dn) (nmE) (fun p : Nm => p.2) (D.str) rfl nd (blkOk_by (N := ["words", "net_count", "names", "numbers", "name", "net", "last_net", "_", "other"]) (sc := defScope s_name_in_q) (by decide +kernel)) (id_list (ed_var 2 rfl)) (rfl) (fun p hxm => ⟨_, by rfl, fun _ _ _ _ _ => ⟨(dg_tup rfl (dgs_cons (dg_name 7 nd) (dgs_cons (dg_name 8 nd) dgs_nil))), tds_nil, (ed_var 8 rfl)⟩⟩) (by rw [sizeLine_eq]; omega))) (c2_inStr (ys := dn.map (·.2)) (.lst _)) (by rfl)))))))) (fun hc5 => ?_) (fun hc5 => ?_))
    · skip
      exfalso; rw [decide_eq_true (lastN_lt hlt hq.1), decide_eq_true hq.2, hnm, decide_eq_false hnew] at hc5; cases hc5
    · skip
      clear hc5
      refine ws_nil ?_
      refine ws_cons (ws_ret (ED.eq (ed_tup (ad_cons (ed_var 5 rfl) (ad_cons (ed_var 4 rfl) ad_nil))) ?_) (Or.inl rfl))
      rfl
/-! name_in#v -/
abbrev s_name_in_v : Stmt := top 24
theorem sc_name_in_v : FnScope ["words", "net_count", "names", "numbers", "name", "net", "last_net", "_", "other"] ["words", "net_count", "names"] (defScope s_name_in_v) := ⟨rfl, rfl, rfl, by decide +kernel, rfl, by decide +kernel, by decide +kernel⟩
theorem ok_name_in_v {f : Addr} {fd : FuncData} (F : Fun K "name_in" "name_in" s_name_in_v f fd) (B : Bt mg) (KC : Kt K mg) (KL : Lt K mg) (G_read_integers : Fn P w K mg base "read_integers" 2 R_read_integers) :
    FnOk P w K mg base CX0 4 f fd ["words", "net_count", "names"] (spR K R_name_in_v) := by
  refine fn_ok (k := 3) F sc_name_in_v (fun ds d h => by cases h; rfl) fun ds d hR cdv A outer s H E hr => ?_
  have nd := sc_name_in_v.nd
  have hu := hr.units
  rcases hR with ⟨n, dn, v, h⟩
  walk_at "en"
  refine ws_cons (ws_set 3 nd (ed_call G_read_integers (hr.mono (by decide)) (by rfl) (ad_cons (ED.eq (ed_lst (eo_slice (ed_var 0 rfl) (some_part ed_int) no_part)) (show _ = (D.lst (([v.g, v.a, v.b, v.w, v.l] : List Int).map fun i => D.str (stI i))) from by rfl)) ad_nil) (by exact .mk [v.g, v.a, v.b, v.w, v.l] (by intro i hi; have hi : i = v.g ∨ i = v.a ∨ i = v.b ∨ i = v.w ∨ i = v.l := (by simpa using hi); rcases hi with rfl | rfl | rfl | rfl | rfl <;> first | exact h.g | exact h.a | exact h.b | exact h.w | exact h.l) (by simp))) ?_)
  walk_at "env"
  refine ws_cons (ws_if (td_tw (tw_or (td_cmp (ed_callB (id := "len") (by rfl) B.«len» bb_len (ad_cons (ed_var 0 rfl) ad_nil) (by walk_at "bc")) ed_int (by walk_at "c2")) (fun hb3 => (tw_or (td_cmp (ed_ix (ed_var 0 rfl) ed_int (by walk_at "ix")) ed_str (by walk_at "c2")) (fun hb2 => (tw_or1 (td_cmp (ed_var 3 rfl) ed_non (by walk_at "c2")))))))) (fun hc1 => ?_) (fun hc1 => ?_))
  · skip
    clear hc1
    refine ws_cons (ws_ret (ED.eq ed_non ?_) (Or.inl rfl))
    rfl
  · skip
    exfalso; simp [wV, isNon] at hc1
/-! device_in#v -/
abbrev s_device_in_v : Stmt := top 25
theorem sc_device_in_v : FnScope ["words", "net_count", "numbers", "device"] ["words", "net_count"] (defScope s_device_in_v) := ⟨rfl, rfl, rfl, by decide +kernel, rfl, by decide +kernel, by decide +kernel⟩
theorem ok_device_in_v {f : Addr} {fd : FuncData} (F : Fun K "device_in" "device_in" s_device_in_v f fd) (B : Bt mg) (KC : Kt K mg) (KL : Lt K mg) (G_is_device : Fn P w K mg base "is_device" 1 R_is_device) (G_read_integers : Fn P w K mg base "read_integers" 2 R_read_integers) :
    FnOk P w K mg base CX0 3 f fd ["words", "net_count"] (spR K R_device_in_v) := by
  refine fn_ok (k := 2) F sc_device_in_v (fun ds d h => by cases h; rfl) fun ds d hR cdv A outer s H E hr => ?_
  have nd := sc_device_in_v.nd
  have hu := hr.units
  rcases hR with ⟨n, v, h, hd⟩
  walk_at "en"
  refine ws_cons (ws_set 2 nd (ed_call G_read_integers (hr.mono (by decide)) (by rfl) (ad_cons (ED.eq (ed_lst (eo_slice (ed_var 0 rfl) (some_part ed_int) no_part)) (show _ = (D.lst (([v.g, v.a, v.b, v.w, v.l] : List Int).map fun i => D.str (stI i))) from by rfl)) ad_nil) (by exact .mk [v.g, v.a, v.b, v.w, v.l] (by intro i hi; have hi : i = v.g ∨ i = v.a ∨ i = v.b ∨ i = v.w ∨ i = v.l := (by simpa using hi); rcases hi with rfl | rfl | rfl | rfl | rfl <;> first | exact h.g | exact h.a | exact h.b | exact h.w | exact h.l) (by simp))) ?_)
  walk_at "env"
  refine ws_cons (ws_if (td_tw (tw_or (td_cmp (ed_callB (id := "len") (by rfl) B.«len» bb_len (ad_cons (ed_var 0 rfl) ad_nil) (by walk_at "bc")) ed_int (by walk_at "c2")) (fun hb3 => (tw_or (td_cmp (ed_ix (ed_var 0 rfl) ed_int (by walk_at "ix")) ed_str (by walk_at "c2")) (fun hb2 => (tw_or1 (td_cmp (ed_var 2 rfl) ed_non (by walk_at "c2")))))))) (fun hc1 => ?_) (fun hc1 => ?_))
  · skip
    exfalso; simp [wV, isNon] at hc1
  · skip
    clear hc1
    refine ws_nil ?_
    refine ws_cons (ws_set 3 nd (ED.eq (ed_tup (ad_cons (ed_ix (ed_var 0 rfl) ed_int (by walk_at "ix")) (ad_star (ed_var 2 rfl) ad_nil)) (by show (6 : Nat) ≤ sizeLine; rw [sizeLine_eq]; omega)) (show _ = v.e from rfl)) ?_)
    walk_at "env"
    refine ws_cons (ws_ret (ED.eq (ED.eq (ed_ifv (td_truth (ed_call G_is_device (hr.mono (by decide)) (by rfl) (ad_cons (ed_var 3 rfl) (ad_cons (ed_var 1 rfl) ad_nil)) (by exact .mk v n _ rfl)) rfl) (fun hc4 => (ed_var 3 rfl)) (fun hc4 => ed_non)) (show _ = (v.e) from by rw [if_pos hd])) ?_) (Or.inl rfl))
    rfl
/-! device_in#q -/
abbrev s_device_in_q : Stmt := top 25
theorem sc_device_in_q : FnScope ["words", "net_count", "numbers", "device"] ["words", "net_count"] (defScope s_device_in_q) := ⟨rfl, rfl, rfl, by decide +kernel, rfl, by decide +kernel, by decide +kernel⟩
theorem ok_device_in_q {f : Addr} {fd : FuncData} (F : Fun K "device_in" "device_in" s_device_in_q f fd) (B : Bt mg) (KC : Kt K mg) (KL : Lt K mg) (G_read_integers : Fn P w K mg base "read_integers" 2 R_read_integers) :
    FnOk P w K mg base CX0 4 f fd ["words", "net_count"] (spR K R_device_in_q) := by
  refine fn_ok (k := 3) F sc_device_in_q (fun ds d h => by cases h; rfl) fun ds d hR cdv A outer s H E hr => ?_
  have nd := sc_device_in_q.nd
  have hu := hr.units
  rcases hR with ⟨n, q, h⟩
  walk_at "en"
  refine ws_cons (ws_set 2 nd (ed_call G_read_integers (hr.mono (by decide)) (by rfl) (ad_cons (ED.eq (ed_lst (eo_slice (ed_var 0 rfl) (some_part ed_int) no_part)) (show _ = (D.lst (([q.1] : List Int).map fun i => D.str (stI i))) from by rfl)) ad_nil) (by exact .mk [q.1] (by intro i hi; rw [List.mem_singleton.mp hi]; exact h) (by simp))) ?_)
  walk_at "env"
  refine ws_cons (ws_if (td_tw (tw_or (td_cmp (ed_callB (id := "len") (by rfl) B.«len» bb_len (ad_cons (ed_var 0 rfl) ad_nil) (by walk_at "bc")) ed_int (by walk_at "c2")) (fun hb3 => (tw_or (td_cmp (ed_ix (ed_var 0 rfl) ed_int (by walk_at "ix")) ed_str (by walk_at "c2")) (fun hb2 => (tw_or1 (td_cmp (ed_var 2 rfl) ed_non (by walk_at "c2")))))))) (fun hc1 => ?_) (fun hc1 => ?_))
  · skip
    clear hc1
    refine ws_cons (ws_ret (ED.eq ed_non ?_) (Or.inl rfl))
    rfl
  · skip
    exfalso; simp [wQ, isNon] at hc1
/-! parse_circuit -/
abbrev s_parse_circuit : Stmt := top 26
theorem sc_parse_circuit : FnScope ["text", "lines", "net_count", "names", "devices", "number", "words", "name", "device", "line"] ["text"] (defScope s_parse_circuit) := ⟨rfl, rfl, rfl, by decide +kernel, rfl, by decide +kernel, by decide +kernel⟩
theorem ok_parse_circuit {f : Addr} {fd : FuncData} (F : Fun K "parse_circuit" "parse_circuit" s_parse_circuit f fd) (B : Bt mg) (KC : Kt K mg) (KL : Lt K mg) (G_Circuit_init : FnI P w K mg base "Circuit" 3 R_Circuit_init) (G_device_in_q : Fn P w K mg base "device_in" 4 R_device_in_q) (G_device_in_v : Fn P w K mg base "device_in" 3 R_device_in_v) (G_name_in_q : Fn P w K mg base "name_in" 3 R_name_in_q) (G_name_in_v : Fn P w K mg base "name_in" 4 R_name_in_v) (G_net_count_in : Fn P w K mg base "net_count_in" 3 R_net_count_in) :
    FnOk P w K mg base CX0 5 f fd ["text"] (spR K R_parse_circuit) := by
  refine fn_ok (k := 4) F sc_parse_circuit (fun ds d h => by cases h; rfl) fun ds d hR cdv A outer s H E hr => ?_
  have nd := sc_parse_circuit.nd
  have hu := hr.units
  rcases hR with ⟨n, N, V, t, asc⟩
  have hnl := t.ok.nl
  have hvl := t.ok.vl
  walk_at "en"
  refine ws_cons (ws_setMap 1 [("line", 9)] (wsC n N V) (fun ws : List Str => D.str (lnW ws)) (fun ws : List Str => D.lst (ws.map D.str)) rfl nd (blkOk_by (N := ["text", "lines", "net_count", "names", "devices", "number", "words", "name", "device", "line"]) (sc := defScope s_parse_circuit) (by decide +kernel)) (id_list (ed_lst (eo_split (ed_var 0 rfl) ed_str (by decide +kernel) (by have := tx_len t; rw [sizeLine_eq]; omega)))) (by rw [tx_split t, List.map_map]; rfl) (fun ws hxm => by have hw := t.ws hxm; exact ⟨_, by rfl, fun _ _ _ _ _ => ⟨(dg_name 9 nd), tds_nil, (ED.eq (ed_lst (eo_split (ed_var 9 rfl) ed_str (by decide +kernel) (by have := ln_len hw.2.2 hw.2.1; rw [sizeLine_eq]; omega))) (show _ = D.lst (ws.map D.str) by rw [ln_split hw.1 hw.2.2]))⟩⟩) (by have := wsC_len t; rw [sizeLine_eq]; omega) ?_)
  refine ws_share 1 rfl ?_
  walk_at "env"
  refine ws_cons (ws_set 2 nd (ed_call G_net_count_in (hr.mono (by decide)) (by rfl) (ad_cons (ED.eq (ed_ix (ed_var 1 rfl) ed_int IX.l0) (show _ = D.lst ((wN n).map D.str) from rfl)) ad_nil) (by exact .mk _ t.ok.nn)) ?_)
  walk_at "env"
  refine ws_cons (ws_if (td_cmp (ed_var 2 rfl) ed_non (by walk_at "c2")) (fun hc2 => ?_) (fun hc2 => ?_))
  · skip
    cases hc2
  · skip
    clear hc2
    refine ws_nil ?_
    refine ws_cons (ws_setO 3 nd (eo_lst ad_nil) ?_)
    walk_at "env"
    refine ws_cons (ws_setO 4 nd (eo_lst ad_nil) ?_)
    walk_at "env"
    refine ws_cons (ws_forU (List.range (N.length + V.length)) (fun (i : Nat) => D.tup [.int (((2 : Nat) : Int) + (i : Int)), .lst ((tWd N V i).map D.str)]) rfl (id_enumS (k := 2) (by rfl) B.«enumerate» (ed_lst (eo_slice (ed_var 1 rfl) (some_part ed_int) no_part))) (by exact tx_enum) (U := Sl × Sl × Sl × Sl) (fun i u => [(3, .ow (.lst ((N.take i).map nmE))), (4, .ow (.lst ((V.take (i - N.length)).map Dev.e))), (5, u.1), (6, u.2.1), (7, u.2.2.1), (8, u.2.2.2)]) (fun r => (r.getD 5 .no, r.getD 6 .no, r.getD 7 .no, r.getD 8 .no)) (fun _ => True) (by simp; rfl) (True.intro) ?_ ?_)
    · intro i0 t u0 hx0 hP0
      obtain rfl : i0 = t := by
        obtain ⟨hl, he⟩ := List.getElem?_eq_some_iff.mp hx0
        rw [List.getElem_range] at he; exact he
      have hi0 : i0 < N.length + V.length := by have := (List.getElem?_eq_some_iff.mp hx0).1; rwa [List.length_range] at this
      refine ⟨_, _, (dg_tup rfl (dgs_cons (dg_name 5 nd) (dgs_cons (dg_name 6 nd) dgs_nil))), ?_⟩
      walk_at "env"
      refine ws_cons (ws_set 7 nd (ED.eq (ed_ifv (td_truthO 4 rfl) (fun hc3 => ed_non) (fun hc3 => (by rcases Classical.em (i0 < N.length) with hc | hc; exact (ED.eq (ed_lendN 3 rfl (by rfl) (ed_call G_name_in_q (hr.mono (by decide)) (by rfl) (ad_cons (ED.eq (ed_var 6 rfl) (show D.lst ((tWd N V i0).map D.str) = D.lst ((wQ (N.getD i0 nm0)).map D.str) by rw [show tWd N V i0 = wQ (N.getD i0 nm0) from if_pos hc])) (ad_cons (ed_var 2 rfl) (ad_cons (ed_var 3 rfl) ad_nil))) (.mk n (N.take i0) (N.getD i0 nm0) (name_new t asc hc).1 (t.ok.nm _ (name_new t asc hc).2.2).1 t.ok.nn.2 (t.ok.nm _ (name_new t asc hc).2.2).2 (name_new t asc hc).2.1 (by rw [List.length_take]; omega)))) (show _ = pN N i0 from (if_pos hc).symm)); exact (ED.eq (ed_lendN 3 rfl (by rfl) (ed_call G_name_in_v (hr.mono (by decide)) (by rfl) (ad_cons (ED.eq (ed_var 6 rfl) (show D.lst ((tWd N V i0).map D.str) = D.lst ((wV (V.getD (i0 - N.length) dev0)).map D.str) by rw [show tWd N V i0 = wV (V.getD (i0 - N.length) dev0) from if_neg hc])) (ad_cons (ed_var 2 rfl) (ad_cons (ed_var 3 rfl) ad_nil))) (.mk n (N.take i0) (V.getD (i0 - N.length) dev0) (t.v (getD_inV (by omega)))))) (show _ = pN N i0 from (if_neg hc).symm))))) (show _ = (pN N i0) from by exact nm_if rfl)) ?_)
      walk_at "env"
      refine ws_cons (ws_set 8 nd (ED.eq (ed_ifv (td_cmp (ed_lenO 4 rfl (by rfl) B.«len») (ed_const KC.«MOST_DEVICES» (by rfl)) (by walk_at "c2")) (fun hc4 => (by rcases Classical.em (i0 < N.length) with hc | hc; exact (ED.eq (ed_call G_device_in_q (hr.mono (by decide)) (by rfl) (ad_cons (ED.eq (ed_var 6 rfl) (show D.lst ((tWd N V i0).map D.str) = D.lst ((wQ (N.getD i0 nm0)).map D.str) by rw [show tWd N V i0 = wQ (N.getD i0 nm0) from if_pos hc])) (ad_cons (ed_var 2 rfl) ad_nil)) (.mk n (N.getD i0 nm0) (t.q (name_new t asc hc).2.2).1)) (show _ = pV N V i0 from (if_pos hc).symm)); exact (ED.eq (ed_call G_device_in_v (hr.mono (by decide)) (by rfl) (ad_cons (ED.eq (ed_var 6 rfl) (show D.lst ((tWd N V i0).map D.str) = D.lst ((wV (V.getD (i0 - N.length) dev0)).map D.str) by rw [show tWd N V i0 = wV (V.getD (i0 - N.length) dev0) from if_neg hc])) (ad_cons (ed_var 2 rfl) ad_nil)) (.mk n (V.getD (i0 - N.length) dev0) (t.v (getD_inV (by omega))) (dev_ok (t.ok.dv _ (getD_inV (by omega)))))) (show _ = pV N V i0 from (if_neg hc).symm)))) (fun hc4 => ed_non)) (show _ = (pV N V i0) from by exact if_pos (decide_eq_true (by rw [List.length_map, List.length_take]; omega)))) ?_)
      walk_at "env"
      refine ws_cons (ws_if (td_cmp (ed_var 7 rfl) ed_non (by walk_at "c2")) (fun hc5 => ?_) (fun hc5 => ?_))
      · skip
        obtain ⟨s1, s2⟩ := st_nm (V := V) (pN_some hc5)
        refine ws_cons (ws_append 3 rfl (ed_var 7 rfl) (by simp only [List.length_map, List.length_take]; rw [sizeLine_eq]; omega) ?_ (fun h => ps_expr (pe_bm PySem.F.plainAttrs_list PySem.F.slot_list_append PySem.F.type_list_append mt_append (pv 3) h)))
        walk_at "env"
        refine ws_nil ?_
        refine ws_nil ?_
        refine ⟨?_, True.intro⟩
        rw [s1, s2]
        rfl
      · skip
        have hcn := pN_none hc5
        refine ws_cons (ws_if (td_cmp (ed_var 8 rfl) ed_non (by walk_at "c2")) (fun hc6 => ?_) (fun hc6 => ?_))
        · skip
          obtain ⟨s1, s2⟩ := st_dv (V := V) hcn hi0
          refine ws_cons (ws_append 4 rfl (ed_var 8 rfl) (by simp only [List.length_map, List.length_take]; rw [sizeLine_eq]; omega) ?_ (fun h => ps_expr (pe_bm PySem.F.plainAttrs_list PySem.F.slot_list_append PySem.F.type_list_append mt_append (pv 4) h)))
          walk_at "env"
          refine ws_nil ?_
          refine ws_nil ?_
          refine ws_nil ?_
          refine ⟨?_, True.intro⟩
          rw [s1, s2]
          rfl
        · skip
          exact (pV_none hcn hc6).elim
    · intro u0 hP0
      walk_at "env"
      rw [List.length_range, show N.length + V.length - N.length = V.length by omega, List.take_length, List.take_of_length_le (by omega)]
      refine ws_share 3 rfl ?_
      walk_at "env"
      refine ws_share 4 rfl ?_
      walk_at "env"
      refine ws_cons (ws_ret (ED.eq (ed_own (eo_make G_Circuit_init (hr.mono (by decide)) (by rfl) (ad_cons (ed_var 2 rfl) (ad_cons (ed_var 3 rfl) (ad_cons (ed_var 4 rfl) ad_nil))) (by exact .mk _ N V _ _ (.lst _) (.lst _) t.ok))) ?_) (Or.inl rfl))
      rfl
/-! _law_cell -/
abbrev s_law_cell : Stmt := top 28
theorem sc_law_cell : FnScope ["script", "k"] ["script", "k"] (defScope s_law_cell) := ⟨rfl, rfl, rfl, by decide +kernel, rfl, by decide +kernel, by decide +kernel⟩
theorem ok_law_cell {f : Addr} {fd : FuncData} (F : Fun K "_law_cell" "_law_cell" s_law_cell f fd) (B : Bt mg) (KC : Kt K mg) (KL : Lt K mg)  :
    FnOk P w K mg base CX0 1 f fd ["script", "k"] (spR K R_law_cell) := by
  refine fn_ok (k := 0) F sc_law_cell (fun ds d h => by cases h; rfl) fun ds d hR cdv A outer s H E hr => ?_
  have nd := sc_law_cell.nd
  have hu := hr.units
  rcases hR with ⟨ns, k, h0⟩
  walk_at "en"
  refine ws_cons (ws_if (td_cmp (ed_var 1 rfl) (ed_callB (id := "len") (by rfl) B.«len» bb_len (ad_cons (ed_var 0 rfl) ad_nil) (by walk_at "bc")) (by walk_at "c2")) (fun hc1 => ?_) (fun hc1 => ?_))
  · skip
    simp only [decide_eq_true_eq, List.length_map] at hc1
    refine ws_cons (ws_ret (ED.eq (ed_ix (ed_var 0 rfl) (ed_var 1 rfl) (IX.l (at_ints (k := k.toNat) (x := cellAt ns k) (by omega) (by unfold cellAt; simp [show k.toNat < ns.length by omega])))) ?_) (Or.inl rfl))
    rfl
  · skip
    simp only [decide_eq_false_iff_not, List.length_map] at hc1
    refine ws_nil ?_
    refine ws_cons (ws_ret (ED.eq ed_int ?_) (Or.inl rfl))
    unfold cellAt; rw [List.getD_eq_getElem?_getD, List.getElem?_eq_none (by omega)]; rfl
/-! _law_draws -/
abbrev s_law_draws : Stmt := top 29
theorem sc_law_draws : FnScope ["cell", "count", "rows", "left", "k", "mixed"] ["cell", "count"] (defScope s_law_draws) := ⟨rfl, rfl, rfl, by decide +kernel, rfl, by decide +kernel, by decide +kernel⟩
theorem ok_law_draws {f : Addr} {fd : FuncData} (F : Fun K "_law_draws" "_law_draws" s_law_draws f fd) (B : Bt mg) (KC : Kt K mg) (KL : Lt K mg)  :
    FnOk P w K mg base CX0 1 f fd ["cell", "count"] (spR K R_law_draws) := by
  refine fn_ok (k := 0) F sc_law_draws (fun ds d h => by cases h; rfl) fun ds d hR cdv A outer s H E hr => ?_
  have nd := sc_law_draws.nd
  have hu := hr.units
  rcases hR with ⟨c, n, h0, h1⟩
  walk_at "en"
  refine ws_cons (ws_setO 2 nd (eo_lst ad_nil) ?_)
  walk_at "env"
  refine ws_cons (ws_set 3 nd (ed_var 0 rfl) ?_)
  walk_at "env"
  refine ws_cons (ws_forU (List.range n.toNat) (fun (i : Nat) => D.int (i : Int)) rfl (id_range1 (by rfl) B.«range» (ed_var 1 rfl) (by walk_at "side")) (by exact rngD0 _) (U := Sl × Sl) (fun i u => [(2, .ow (.lst ((drawn c i).1.map D.int))), (3, .sh (.int (drawn c i).2)), (4, u.1), (5, u.2)]) (fun r => (r.getD 4 .no, r.getD 5 .no)) (fun _ => True) (rfl) (True.intro) ?_ ?_)
  · intro i0 t u0 hx0 hP0
    obtain rfl : i0 = t := by
      obtain ⟨hl, he⟩ := List.getElem?_eq_some_iff.mp hx0
      rw [List.getElem_range] at he; exact he
    refine ⟨_, _, (dg_name 4 nd), ?_⟩
    walk_at "env"
    refine ws_cons (ws_if (td_tw (tw_and (td_cmp (ed_var 0 rfl) (ed_bin ed_int ed_int (b2_powL (n := 1000000000000000000) ⟨by decide, by decide, by decide⟩ (by decide))) (by walk_at "c2")) (fun hb2 => (tw_and1 (td_cmp (ed_var 3 rfl) ed_int (by walk_at "c2")))))) (fun hc1 => ?_) (fun hc1 => ?_))
    · skip
      simp only [Bool.and_eq_true, decide_eq_true_eq] at hc1
      have e : drawn c (i0 + 1) = ((drawn c i0).1 ++ [(drawn c i0).2 % 4096], (drawn c i0).2 / 4096) := by
        rw [drawn_succ]; unfold drawStep; rw [if_pos hc1]
      refine ws_cons (ws_append 2 rfl (ed_bin (ed_callT (T := "int") (by rfl) B.«int» bb_int (ad_cons (ed_var 3 rfl) ad_nil) (by walk_at "bc")) ed_int (by walk_at "b2")) (by rw [List.length_map, (draws_spec c i0).1, sizeLine_eq]; have := (List.getElem?_eq_some_iff.mp hx0).1; rw [List.length_range] at this; omega) ?_ (fun h => ps_expr (pe_bm PySem.F.plainAttrs_list PySem.F.slot_list_append PySem.F.type_list_append mt_append (pv 2) h)))
      walk_at "env"
      refine ws_cons (ws_set 3 nd (ed_bin (ed_var 3 rfl) ed_int (by walk_at "b2")) ?_)
      walk_at "env"
      refine ws_nil ?_
      refine ws_nil ?_
      refine ⟨?_, True.intro⟩
      rw [e, List.map_append]
      rfl
    · skip
      have e : drawn c (i0 + 1) = ((drawn c i0).1 ++ [mix3 c i0 / 7 % 4096], (drawn c i0).2) := by
        rw [drawn_succ]; unfold drawStep; rw [if_neg]; intro z; rw [decide_eq_true z.1, decide_eq_true z.2] at hc1; cases hc1
      refine ws_cons (ws_set 5 nd (ed_bin (ed_callT (T := "int") (by rfl) B.«int» bb_int (ad_cons (ed_bin (ed_bin (ed_var 0 rfl) ed_int (by walk_at "b2")) (ed_bin (ed_bin (ed_var 4 rfl) ed_int (by walk_at "b2")) ed_int (by walk_at "b2")) (by walk_at "b2")) ad_nil) (by walk_at "bc")) ed_int (by walk_at "b2")) ?_)
      walk_at "env"
      refine ws_cons (ws_set 5 nd (ed_bin (ed_callT (T := "int") (by rfl) B.«int» bb_int (ad_cons (ed_bin (ed_bin (ed_bin (ed_var 5 rfl) (ed_var 5 rfl) (by walk_at "b2")) (ed_bin (ed_var 5 rfl) ed_int (by walk_at "b2")) (by walk_at "b2")) (ed_bin (ed_var 4 rfl) ed_int (by walk_at "b2")) (by walk_at "b2")) ad_nil) (by walk_at "bc")) ed_int (by walk_at "b2")) ?_)
      walk_at "env"
      refine ws_cons (ws_set 5 nd (ed_bin (ed_callT (T := "int") (by rfl) B.«int» bb_int (ad_cons (ed_bin (ed_bin (ed_bin (ed_var 5 rfl) (ed_var 5 rfl) (by walk_at "b2")) (ed_var 0 rfl) (by walk_at "b2")) (ed_bin ed_int (ed_var 4 rfl) (by walk_at "b2")) (by walk_at "b2")) ad_nil) (by walk_at "bc")) ed_int (by walk_at "b2")) ?_)
      walk_at "env"
      refine ws_cons (ws_append 2 rfl (ed_bin (ed_bin (ed_var 5 rfl) ed_int (by walk_at "b2")) ed_int (by walk_at "b2")) (by rw [List.length_map, (draws_spec c i0).1, sizeLine_eq]; have := (List.getElem?_eq_some_iff.mp hx0).1; rw [List.length_range] at this; omega) ?_ (fun h => ps_expr (pe_bm PySem.F.plainAttrs_list PySem.F.slot_list_append PySem.F.type_list_append mt_append (pv 2) h)))
      walk_at "env"
      refine ws_nil ?_
      refine ws_nil ?_
      refine ⟨?_, True.intro⟩
      rw [e, List.map_append]
      rfl
  · intro u0 hP0
    walk_at "env"
    rw [List.length_range]
    refine ws_share 2 rfl ?_
    refine ws_cons (ws_ret (ED.eq (ed_var 2 rfl) ?_) (Or.inl rfl))
    rfl
/-! _law_is_int -/
abbrev s_law_is_int : Stmt := top 30
theorem sc_law_is_int : FnScope ["x"] ["x"] (defScope s_law_is_int) := ⟨rfl, rfl, rfl, by decide +kernel, rfl, by decide +kernel, by decide +kernel⟩
theorem ok_law_is_int {f : Addr} {fd : FuncData} (F : Fun K "_law_is_int" "_law_is_int" s_law_is_int f fd) (B : Bt mg) (KC : Kt K mg) (KL : Lt K mg)  :
    FnOk P w K mg base CX0 1 f fd ["x"] (spR K R_law_is_int) := by
  refine fn_ok (k := 0) F sc_law_is_int (fun ds d h => by cases h; rfl) fun ds d hR cdv A outer s H E hr => ?_
  have nd := sc_law_is_int.nd
  have hu := hr.units
  cases hR
  walk_at "en"
  refine ws_cons (ws_ret (ED.eq (ed_and (ed_callB (id := "isinstance") (by rfl) B.«isinstance» bb_isinstance (ad_cons (ed_var 0 rfl) (ad_cons (ed_ty (n := "int") (by rfl) B.«int» bb_int) ad_nil)) (bc_isi (c := "int") (by rfl) (by rfl))) (fun hb1 => (ed_one (ed_not (ed_callB (id := "isinstance") (by rfl) B.«isinstance» bb_isinstance (ad_cons (ed_var 0 rfl) (ad_cons (ed_ty (n := "bool") (by rfl) B.«bool» bb_bool) ad_nil)) (bc_isi (c := "bool") (by rfl) (by rfl))))))) ?_) (Or.inl rfl))
  rfl
/-! _law_is_text -/
abbrev s_law_is_text : Stmt := top 31
theorem sc_law_is_text : FnScope ["x", "due"] ["x", "due"] (defScope s_law_is_text) := ⟨rfl, rfl, rfl, by decide +kernel, rfl, by decide +kernel, by decide +kernel⟩
theorem ok_law_is_text {f : Addr} {fd : FuncData} (F : Fun K "_law_is_text" "_law_is_text" s_law_is_text f fd) (B : Bt mg) (KC : Kt K mg) (KL : Lt K mg)  :
    FnOk P w K mg base CX0 1 f fd ["x", "due"] (spR K R_law_is_text) := by
  refine fn_ok (k := 0) F sc_law_is_text (fun ds d h => by cases h; rfl) fun ds d hR cdv A outer s H E hr => ?_
  have nd := sc_law_is_text.nd
  have hu := hr.units
  rcases hR with ⟨z⟩
  walk_at "en"
  refine ws_cons (ws_ret (ED.eq (ed_and (ed_callB (id := "isinstance") (by rfl) B.«isinstance» bb_isinstance (ad_cons (ed_var 0 rfl) (ad_cons (ed_ty (n := "str") (by rfl) B.«str» bb_str) ad_nil)) (bc_isi (c := "str") (by rfl) (by rfl))) (fun hb1 => (ed_one (ed_cmp (ed_var 0 rfl) (ed_var 1 rfl) (by walk_at "c2"))))) ?_) (Or.inl rfl))
  rw [decide_eq_true (rfl : z = z)]
  rfl
/-! _law_is_number -/
abbrev s_law_is_number : Stmt := top 32
theorem sc_law_is_number : FnScope ["x", "due"] ["x", "due"] (defScope s_law_is_number) := ⟨rfl, rfl, rfl, by decide +kernel, rfl, by decide +kernel, by decide +kernel⟩
theorem ok_law_is_number {f : Addr} {fd : FuncData} (F : Fun K "_law_is_number" "_law_is_number" s_law_is_number f fd) (B : Bt mg) (KC : Kt K mg) (KL : Lt K mg) (G_law_is_int : Fn P w K mg base "_law_is_int" 1 R_law_is_int) :
    FnOk P w K mg base CX0 2 f fd ["x", "due"] (spR K R_law_is_number) := by
  refine fn_ok (k := 1) F sc_law_is_number (fun ds d h => by cases h; rfl) fun ds d hR cdv A outer s H E hr => ?_
  have nd := sc_law_is_number.nd
  have hu := hr.units
  rcases hR with ⟨i, j⟩
  walk_at "en"
  refine ws_cons (ws_ret (ED.eq (ed_and (ed_call G_law_is_int (hr.mono (by decide)) (by rfl) (ad_cons (ed_var 0 rfl) ad_nil) (by walk_at "mk")) (fun hb1 => (ed_one (ed_cmp (ed_var 0 rfl) (ed_var 1 rfl) (by walk_at "c2"))))) ?_) (Or.inl rfl))
  simp
/-! _law_name -/
abbrev s_law_name : Stmt := top 33
theorem sc_law_name : FnScope ["draw", "letters", "tail"] ["draw"] (defScope s_law_name) := ⟨rfl, rfl, rfl, by decide +kernel, rfl, by decide +kernel, by decide +kernel⟩
theorem ok_law_name {f : Addr} {fd : FuncData} (F : Fun K "_law_name" "_law_name" s_law_name f fd) (B : Bt mg) (KC : Kt K mg) (KL : Lt K mg)  :
    FnOk P w K mg base CX0 1 f fd ["draw"] (spR K R_law_name) := by
  refine fn_ok (k := 0) F sc_law_name (fun ds d h => by cases h; rfl) fun ds d hR cdv A outer s H E hr => ?_
  have nd := sc_law_name.nd
  have hu := hr.units
  rcases hR with ⟨d, hd⟩
  walk_at "en"
  refine ws_cons (ws_set 1 nd ed_str ?_)
  walk_at "env"
  refine ws_cons (ws_setO 2 nd (eo_lst (ad_cons ed_str (ad_cons ed_str (ad_cons ed_str (ad_cons ed_str (ad_cons ed_str (ad_cons ed_str ad_nil))))))) ?_)
  refine ws_share 2 rfl ?_
  walk_at "env"
  refine ws_cons (ws_ret (ED.eq (ed_bin (ed_ixS (ed_var 1 rfl) (ed_bin (ed_var 0 rfl) ed_int (by walk_at "b2")) (by decide +kernel) (at_ltr (by omega) (by omega))) (ed_ix (ed_var 2 rfl) (ed_bin (ed_bin (ed_var 0 rfl) ed_int (by walk_at "b2")) ed_int (by walk_at "b2")) (.l (at_tls (by omega) (by omega)))) (b2_addS (by have := tls_len (d / 26 % 6).toNat; rw [sizeLine_eq]; show 1 + _ ≤ _; omega))) ?_) (Or.inl rfl))
  rfl
/-! _law_like#int -/
abbrev s_law_like_int : Stmt := top 34
theorem sc_law_like_int : FnScope ["actual", "due", "k"] ["actual", "due"] (defScope s_law_like_int) := ⟨rfl, rfl, rfl, by decide +kernel, rfl, by decide +kernel, by decide +kernel⟩
theorem ok_law_like_int {f : Addr} {fd : FuncData} (F : Fun K "_law_like" "_law_like" s_law_like_int f fd) (B : Bt mg) (KC : Kt K mg) (KL : Lt K mg)  :
    FnOk P w K mg base CX0 1 f fd ["actual", "due"] (spR K R_law_like_int) := by
  refine fn_ok (k := 0) F sc_law_like_int (fun ds d h => by cases h; rfl) fun ds d hR cdv A outer s H E hr => ?_
  have nd := sc_law_like_int.nd
  have hu := hr.units
  rcases hR with ⟨i⟩
  walk_at "en"
  refine ws_cons (ws_if (td_cmp (ed_var 1 rfl) ed_non (by walk_at "c2")) (fun hc1 => ?_) (fun hc1 => ?_))
  · skip
    cases hc1
  · skip
    clear hc1
    refine ws_nil ?_
    refine ws_cons (ws_if (td_truth (ed_callB (id := "isinstance") (by rfl) B.«isinstance» bb_isinstance (ad_cons (ed_var 1 rfl) (ad_cons (ed_ty (n := "bool") (by rfl) B.«bool» bb_bool) ad_nil)) (bc_isi (c := "bool") (by rfl) (by rfl))) rfl) (fun hc2 => ?_) (fun hc2 => ?_))
    · skip
      cases hc2
    · skip
      clear hc2
      refine ws_nil ?_
      refine ws_cons (ws_if (td_truth (ed_callB (id := "isinstance") (by rfl) B.«isinstance» bb_isinstance (ad_cons (ed_var 1 rfl) (ad_cons (ed_ty (n := "str") (by rfl) B.«str» bb_str) ad_nil)) (bc_isi (c := "str") (by rfl) (by rfl))) rfl) (fun hc3 => ?_) (fun hc3 => ?_))
      · skip
        cases hc3
      · skip
        clear hc3
        refine ws_nil ?_
        refine ws_cons (ws_if (td_truth (ed_callB (id := "isinstance") (by rfl) B.«isinstance» bb_isinstance (ad_cons (ed_var 1 rfl) (ad_cons (ed_ty (n := "int") (by rfl) B.«int» bb_int) ad_nil)) (bc_isi (c := "int") (by rfl) (by rfl))) rfl) (fun hc4 => ?_) (fun hc4 => ?_))
        · skip
          clear hc4
          refine ws_cons (ws_ret (ED.eq (ed_and (ed_callB (id := "isinstance") (by rfl) B.«isinstance» bb_isinstance (ad_cons (ed_var 0 rfl) (ad_cons (ed_ty (n := "int") (by rfl) B.«int» bb_int) ad_nil)) (bc_isi (c := "int") (by rfl) (by rfl))) (fun hb6 => (ed_and (ed_not (ed_callB (id := "isinstance") (by rfl) B.«isinstance» bb_isinstance (ad_cons (ed_var 0 rfl) (ad_cons (ed_ty (n := "bool") (by rfl) B.«bool» bb_bool) ad_nil)) (bc_isi (c := "bool") (by rfl) (by rfl)))) (fun hb5 => (ed_one (ed_cmp (ed_var 0 rfl) (ed_var 1 rfl) (by walk_at "c2"))))))) ?_) (Or.inl rfl))
          rw [decide_eq_true (rfl : i = i)]
          rfl
        · skip
          cases hc4
/-! _law_like#str -/
abbrev s_law_like_str : Stmt := top 34
theorem sc_law_like_str : FnScope ["actual", "due", "k"] ["actual", "due"] (defScope s_law_like_str) := ⟨rfl, rfl, rfl, by decide +kernel, rfl, by decide +kernel, by decide +kernel⟩
theorem ok_law_like_str {f : Addr} {fd : FuncData} (F : Fun K "_law_like" "_law_like" s_law_like_str f fd) (B : Bt mg) (KC : Kt K mg) (KL : Lt K mg)  :
    FnOk P w K mg base CX0 2 f fd ["actual", "due"] (spR K R_law_like_str) := by
  refine fn_ok (k := 1) F sc_law_like_str (fun ds d h => by cases h; rfl) fun ds d hR cdv A outer s H E hr => ?_
  have nd := sc_law_like_str.nd
  have hu := hr.units
  rcases hR with ⟨z⟩
  walk_at "en"
  refine ws_cons (ws_if (td_cmp (ed_var 1 rfl) ed_non (by walk_at "c2")) (fun hc1 => ?_) (fun hc1 => ?_))
  · skip
    cases hc1
  · skip
    clear hc1
    refine ws_nil ?_
    refine ws_cons (ws_if (td_truth (ed_callB (id := "isinstance") (by rfl) B.«isinstance» bb_isinstance (ad_cons (ed_var 1 rfl) (ad_cons (ed_ty (n := "bool") (by rfl) B.«bool» bb_bool) ad_nil)) (bc_isi (c := "bool") (by rfl) (by rfl))) rfl) (fun hc2 => ?_) (fun hc2 => ?_))
    · skip
      cases hc2
    · skip
      clear hc2
      refine ws_nil ?_
      refine ws_cons (ws_if (td_truth (ed_callB (id := "isinstance") (by rfl) B.«isinstance» bb_isinstance (ad_cons (ed_var 1 rfl) (ad_cons (ed_ty (n := "str") (by rfl) B.«str» bb_str) ad_nil)) (bc_isi (c := "str") (by rfl) (by rfl))) rfl) (fun hc3 => ?_) (fun hc3 => ?_))
      · skip
        clear hc3
        refine ws_cons (ws_ret (ED.eq (ed_and (ed_callB (id := "isinstance") (by rfl) B.«isinstance» bb_isinstance (ad_cons (ed_var 0 rfl) (ad_cons (ed_ty (n := "str") (by rfl) B.«str» bb_str) ad_nil)) (bc_isi (c := "str") (by rfl) (by rfl))) (fun hb4 => (ed_one (ed_cmp (ed_var 0 rfl) (ed_var 1 rfl) (by walk_at "c2"))))) ?_) (Or.inl rfl))
        rw [decide_eq_true (rfl : z = z)]
        rfl
      · skip
        cases hc3
/-! _law_like#t1 -/
abbrev s_law_like_t1 : Stmt := top 34
theorem sc_law_like_t1 : FnScope ["actual", "due", "k"] ["actual", "due"] (defScope s_law_like_t1) := ⟨rfl, rfl, rfl, by decide +kernel, rfl, by decide +kernel, by decide +kernel⟩
theorem ok_law_like_t1 {f : Addr} {fd : FuncData} (F : Fun K "_law_like" "_law_like" s_law_like_t1 f fd) (B : Bt mg) (KC : Kt K mg) (KL : Lt K mg) (G_law_like_int : Fn P w K mg base "_law_like" 1 R_law_like_int) (G_law_like_str : Fn P w K mg base "_law_like" 2 R_law_like_str) :
    FnOk P w K mg base CX0 3 f fd ["actual", "due"] (spR K R_law_like_t1) := by
  refine fn_ok (k := 2) F sc_law_like_t1 (fun ds d h => by cases h; rfl) fun ds d hR cdv A outer s H E hr => ?_
  have nd := sc_law_like_t1.nd
  have hu := hr.units
  rcases hR with ⟨ds, hn, hlf⟩
  walk_at "en"
  refine ws_cons (ws_if (td_cmp (ed_var 1 rfl) ed_non (by walk_at "c2")) (fun hc1 => ?_) (fun hc1 => ?_))
  · skip
    cases hc1
  · skip
    clear hc1
    refine ws_nil ?_
    refine ws_cons (ws_if (td_truth (ed_callB (id := "isinstance") (by rfl) B.«isinstance» bb_isinstance (ad_cons (ed_var 1 rfl) (ad_cons (ed_ty (n := "bool") (by rfl) B.«bool» bb_bool) ad_nil)) (bc_isi (c := "bool") (by rfl) (by rfl))) rfl) (fun hc2 => ?_) (fun hc2 => ?_))
    · skip
      cases hc2
    · skip
      clear hc2
      refine ws_nil ?_
      refine ws_cons (ws_if (td_truth (ed_callB (id := "isinstance") (by rfl) B.«isinstance» bb_isinstance (ad_cons (ed_var 1 rfl) (ad_cons (ed_ty (n := "str") (by rfl) B.«str» bb_str) ad_nil)) (bc_isi (c := "str") (by rfl) (by rfl))) rfl) (fun hc3 => ?_) (fun hc3 => ?_))
      · skip
        cases hc3
      · skip
        clear hc3
        refine ws_nil ?_
        refine ws_cons (ws_if (td_truth (ed_callB (id := "isinstance") (by rfl) B.«isinstance» bb_isinstance (ad_cons (ed_var 1 rfl) (ad_cons (ed_ty (n := "int") (by rfl) B.«int» bb_int) ad_nil)) (bc_isi (c := "int") (by rfl) (by rfl))) rfl) (fun hc4 => ?_) (fun hc4 => ?_))
        · skip
          cases hc4
        · skip
          clear hc4
          refine ws_nil ?_
          refine ws_cons (ws_if (td_tw (tw_or (td_cmp (ed_callB (id := "isinstance") (by rfl) B.«isinstance» bb_isinstance (ad_cons (ed_var 1 rfl) (ad_cons (ed_ty (n := "list") (by rfl) B.«list» bb_list) ad_nil)) (bc_isi (c := "list") (by rfl) (by rfl))) (ed_callB (id := "isinstance") (by rfl) B.«isinstance» bb_isinstance (ad_cons (ed_var 0 rfl) (ad_cons (ed_ty (n := "list") (by rfl) B.«list» bb_list) ad_nil)) (bc_isi (c := "list") (by rfl) (by rfl))) (by walk_at "c2")) (fun hb6 => (tw_or1 (td_cmp (ed_callB (id := "isinstance") (by rfl) B.«isinstance» bb_isinstance (ad_cons (ed_var 1 rfl) (ad_cons (ed_ty (n := "tuple") (by rfl) B.«tuple» bb_tuple) ad_nil)) (bc_isi (c := "tuple") (by rfl) (by rfl))) (ed_callB (id := "isinstance") (by rfl) B.«isinstance» bb_isinstance (ad_cons (ed_var 0 rfl) (ad_cons (ed_ty (n := "tuple") (by rfl) B.«tuple» bb_tuple) ad_nil)) (bc_isi (c := "tuple") (by rfl) (by rfl))) (by walk_at "c2")))))) (fun hc5 => ?_) (fun hc5 => ?_))
          · skip
            exact absurd hc5 (by decide)
          · skip
            clear hc5
            refine ws_nil ?_
            refine ws_cons (ws_if (td_cmp (ed_callB (id := "len") (by rfl) B.«len» bb_len (ad_cons (ed_var 0 rfl) ad_nil) (by walk_at "bc")) (ed_callB (id := "len") (by rfl) B.«len» bb_len (ad_cons (ed_var 1 rfl) ad_nil) (by walk_at "bc")) (by walk_at "c2")) (fun hc7 => ?_) (fun hc7 => ?_))
            · skip
              exfalso; simp at hc7
            · skip
              clear hc7
              refine ws_nil ?_
              refine ws_cons (ws_ret (ED.eq (ed_callB (id := "all") (by rfl) B.«all» bb_all (ad_cons (ed_lst (eo_map2 [("k", 2)] (List.range ds.length) (fun (i : Nat) => D.int (i : Int)) (fun _ => true) (D.bl) rfl nd (blkOk_by (N := ["actual", "due", "k"]) (sc := defScope s_law_like_t1) (by decide +kernel)) (id_range1 (by rfl) B.«range» (ed_callB (id := "len") (by rfl) B.«len» bb_len (ad_cons (ed_var 1 rfl) ad_nil) (by walk_at "bc")) (by omega)) (by rw [Int.toNat_natCast]; exact rngD0 _) (fun x hxm => by have hx2 := List.mem_range.mp hxm; exact ⟨_, by rfl, fun _ _ _ _ _ => ⟨(dg_name 2 nd), tds_nil, (by rcases hlf _ (List.getElem_mem hx2) with ⟨i, e⟩ | ⟨z, e⟩ <;> first | exact (ed_call G_law_like_int (hr.mono (by decide)) (by rfl) (ad_cons (ed_ix (d := ds[x]) (ed_var 0 rfl) (ed_var 2 rfl) (.t (atI_nat (by simp [hx2])))) (ad_cons (ed_ix (d := ds[x]) (ed_var 1 rfl) (ed_var 2 rfl) (.t (atI_nat (by simp [hx2])))) ad_nil)) (by rw [e]; exact .mk _)) | exact (ed_call G_law_like_str (hr.mono (by decide)) (by rfl) (ad_cons (ed_ix (d := ds[x]) (ed_var 0 rfl) (ed_var 2 rfl) (.t (atI_nat (by simp [hx2])))) (ad_cons (ed_ix (d := ds[x]) (ed_var 1 rfl) (ed_var 2 rfl) (.t (atI_nat (by simp [hx2])))) ad_nil)) (by rw [e]; exact .mk _)))⟩⟩) (by rw [List.length_range, sizeLine_eq]; omega))) ad_nil) (bc_all rfl)) ?_) (Or.inl rfl))
              simp
/-! _law_like#t2 -/
abbrev s_law_like_t2 : Stmt := top 34
theorem sc_law_like_t2 : FnScope ["actual", "due", "k"] ["actual", "due"] (defScope s_law_like_t2) := ⟨rfl, rfl, rfl, by decide +kernel, rfl, by decide +kernel, by decide +kernel⟩
theorem ok_law_like_t2 {f : Addr} {fd : FuncData} (F : Fun K "_law_like" "_law_like" s_law_like_t2 f fd) (B : Bt mg) (KC : Kt K mg) (KL : Lt K mg) (G_law_like_t1 : Fn P w K mg base "_law_like" 3 R_law_like_t1) :
    FnOk P w K mg base CX0 4 f fd ["actual", "due"] (spR K R_law_like_t2) := by
  refine fn_ok (k := 3) F sc_law_like_t2 (fun ds d h => by cases h; rfl) fun ds d hR cdv A outer s H E hr => ?_
  have nd := sc_law_like_t2.nd
  have hu := hr.units
  rcases hR with ⟨ds, hn, hlf⟩
  walk_at "en"
  refine ws_cons (ws_if (td_cmp (ed_var 1 rfl) ed_non (by walk_at "c2")) (fun hc1 => ?_) (fun hc1 => ?_))
  · skip
    cases hc1
  · skip
    clear hc1
    refine ws_nil ?_
    refine ws_cons (ws_if (td_truth (ed_callB (id := "isinstance") (by rfl) B.«isinstance» bb_isinstance (ad_cons (ed_var 1 rfl) (ad_cons (ed_ty (n := "bool") (by rfl) B.«bool» bb_bool) ad_nil)) (bc_isi (c := "bool") (by rfl) (by rfl))) rfl) (fun hc2 => ?_) (fun hc2 => ?_))
    · skip
      cases hc2
    · skip
      clear hc2
      refine ws_nil ?_
      refine ws_cons (ws_if (td_truth (ed_callB (id := "isinstance") (by rfl) B.«isinstance» bb_isinstance (ad_cons (ed_var 1 rfl) (ad_cons (ed_ty (n := "str") (by rfl) B.«str» bb_str) ad_nil)) (bc_isi (c := "str") (by rfl) (by rfl))) rfl) (fun hc3 => ?_) (fun hc3 => ?_))
      · skip
        cases hc3
      · skip
        clear hc3
        refine ws_nil ?_
        refine ws_cons (ws_if (td_truth (ed_callB (id := "isinstance") (by rfl) B.«isinstance» bb_isinstance (ad_cons (ed_var 1 rfl) (ad_cons (ed_ty (n := "int") (by rfl) B.«int» bb_int) ad_nil)) (bc_isi (c := "int") (by rfl) (by rfl))) rfl) (fun hc4 => ?_) (fun hc4 => ?_))
        · skip
          cases hc4
        · skip
          clear hc4
          refine ws_nil ?_
          refine ws_cons (ws_if (td_tw (tw_or (td_cmp (ed_callB (id := "isinstance") (by rfl) B.«isinstance» bb_isinstance (ad_cons (ed_var 1 rfl) (ad_cons (ed_ty (n := "list") (by rfl) B.«list» bb_list) ad_nil)) (bc_isi (c := "list") (by rfl) (by rfl))) (ed_callB (id := "isinstance") (by rfl) B.«isinstance» bb_isinstance (ad_cons (ed_var 0 rfl) (ad_cons (ed_ty (n := "list") (by rfl) B.«list» bb_list) ad_nil)) (bc_isi (c := "list") (by rfl) (by rfl))) (by walk_at "c2")) (fun hb6 => (tw_or1 (td_cmp (ed_callB (id := "isinstance") (by rfl) B.«isinstance» bb_isinstance (ad_cons (ed_var 1 rfl) (ad_cons (ed_ty (n := "tuple") (by rfl) B.«tuple» bb_tuple) ad_nil)) (bc_isi (c := "tuple") (by rfl) (by rfl))) (ed_callB (id := "isinstance") (by rfl) B.«isinstance» bb_isinstance (ad_cons (ed_var 0 rfl) (ad_cons (ed_ty (n := "tuple") (by rfl) B.«tuple» bb_tuple) ad_nil)) (bc_isi (c := "tuple") (by rfl) (by rfl))) (by walk_at "c2")))))) (fun hc5 => ?_) (fun hc5 => ?_))
          · skip
            exact absurd hc5 (by decide)
          · skip
            clear hc5
            refine ws_nil ?_
            refine ws_cons (ws_if (td_cmp (ed_callB (id := "len") (by rfl) B.«len» bb_len (ad_cons (ed_var 0 rfl) ad_nil) (by walk_at "bc")) (ed_callB (id := "len") (by rfl) B.«len» bb_len (ad_cons (ed_var 1 rfl) ad_nil) (by walk_at "bc")) (by walk_at "c2")) (fun hc7 => ?_) (fun hc7 => ?_))
            · skip
              exfalso; simp at hc7
            · skip
              clear hc7
              refine ws_nil ?_
              refine ws_cons (ws_ret (ED.eq (ed_callB (id := "all") (by rfl) B.«all» bb_all (ad_cons (ed_lst (eo_map2 [("k", 2)] (List.range ds.length) (fun (i : Nat) => D.int (i : Int)) (fun _ => true) (D.bl) rfl nd (blkOk_by (N := ["actual", "due", "k"]) (sc := defScope s_law_like_t2) (by decide +kernel)) (id_range1 (by rfl) B.«range» (ed_callB (id := "len") (by rfl) B.«len» bb_len (ad_cons (ed_var 1 rfl) ad_nil) (by walk_at "bc")) (by omega)) (by rw [Int.toNat_natCast]; exact rngD0 _) (fun x hxm => by have hx2 := List.mem_range.mp hxm; exact ⟨_, by rfl, fun _ _ _ _ _ => ⟨(dg_name 2 nd), tds_nil, (by obtain ⟨es, e, h1, h2⟩ := hlf _ (List.getElem_mem hx2); exact (ed_call G_law_like_t1 (hr.mono (by decide)) (by rfl) (ad_cons (ed_ix (d := ds[x]) (ed_var 0 rfl) (ed_var 2 rfl) (.t (atI_nat (by simp [hx2])))) (ad_cons (ed_ix (d := ds[x]) (ed_var 1 rfl) (ed_var 2 rfl) (.t (atI_nat (by simp [hx2])))) ad_nil)) (by rw [e]; exact .mk _ h1 h2)))⟩⟩) (by rw [List.length_range, sizeLine_eq]; omega))) ad_nil) (bc_all rfl)) ?_) (Or.inl rfl))
              simp
/-! _law_qcircuit -/
abbrev s_law_qcircuit : Stmt := top 35
theorem sc_law_qcircuit : FnScope ["cell", "nets", "most", "draws", "count", "names", "net", "devices", "k", "row", "ends"] ["cell", "nets", "most"] (defScope s_law_qcircuit) := ⟨rfl, rfl, rfl, by decide +kernel, rfl, by decide +kernel, by decide +kernel⟩
theorem ok_law_qcircuit {f : Addr} {fd : FuncData} (F : Fun K "_law_qcircuit" "_law_qcircuit" s_law_qcircuit f fd) (B : Bt mg) (KC : Kt K mg) (KL : Lt K mg) (G_law_draws : Fn P w K mg base "_law_draws" 1 R_law_draws) (G_law_name : Fn P w K mg base "_law_name" 1 R_law_name) :
    FnOk P w K mg base CX0 2 f fd ["cell", "nets", "most"] (spR K R_law_qcircuit) := by
  refine fn_ok (k := 1) F sc_law_qcircuit (fun ds d h => by cases h; rfl) fun ds d hR cdv A outer s H E hr => ?_
  have nd := sc_law_qcircuit.nd
  have hu := hr.units
  rcases hR with ⟨c, nets, most, h1, h2⟩
  have hcn := qCnt_lo (c := c) (most := most) h1.1
  have hqm := qm_le c nets most h2.1
  walk_at "en"
  refine ws_cons (ws_set 3 nd (ed_call G_law_draws (hr.mono (by decide)) (by rfl) (ad_cons (ed_var 0 rfl) (ad_cons (ed_bin (ed_bin (ed_bin ed_int (ed_var 2 rfl) (by walk_at "b2")) (ed_var 1 rfl) (by walk_at "b2")) ed_int (by walk_at "b2")) ad_nil)) (by first | exact .mk _ _ (by decide) (by decide) | exact .mk _ _ (by omega) (by omega))) ?_)
  walk_at "env"
  refine ws_cons (ws_set 4 nd (ED.eq (ed_bin (ed_ix (ed_var 3 rfl) ed_int (by walk_at "ix")) (ed_bin (ed_var 1 rfl) ed_int (by walk_at "b2")) (by walk_at "b2")) (show _ = (D.int (qCnt c nets most)) from by rfl)) ?_)
  walk_at "env"
  refine ws_cons (ws_setO 5 nd (eo_lst ad_nil) ?_)
  walk_at "env"
  refine ws_cons (ws_forU (List.range ((qCnt c nets most).toNat)) (fun (i : Nat) => D.int (i : Int)) rfl (id_range1 (by rfl) B.«range» (ed_var 4 rfl) (by walk_at "side")) (by exact rngD0 _) (U := Sl) (fun i u => [(5, .ow (.lst ((qN c (5 * most + nets + 2) i).map nmE))), (6, u)]) (fun r => (r.getD 6 .no)) (fun _ => True) (rfl) (True.intro) ?_ ?_)
  · intro i0 t u0 hx0 hP0
    obtain rfl : i0 = t := by
      obtain ⟨hl, he⟩ := List.getElem?_eq_some_iff.mp hx0
      rw [List.getElem_range] at he; exact he
    have hi0 : i0 < (qCnt c nets most).toNat := by have := (List.getElem?_eq_some_iff.mp hx0).1; rwa [List.length_range] at this
    refine ⟨_, _, (dg_name 6 nd), ?_⟩
    walk_at "env"
    refine ws_cons (ws_if (td_cmp (ed_bin (ed_ix (ed_var 3 rfl) (ed_bin ed_int (ed_var 6 rfl) (by walk_at "b2")) (by walk_at "ix")) ed_int (by walk_at "b2")) ed_int (by walk_at "c2")) (fun hc1 => ?_) (fun hc1 => ?_))
    · skip
      have hf := of_decide_eq_true hc1
      refine ws_cons (ws_append 5 rfl (ed_tup (ad_cons (ed_var 6 rfl) (ad_cons (ed_bin (ed_bin (ed_sliceS (ed_call G_law_name (hr.mono (by decide)) (by rfl) (ad_cons (ed_bin (ed_ix (ed_var 3 rfl) (ed_bin ed_int (ed_var 6 rfl) (by walk_at "b2")) (by walk_at "ix")) ed_int (by walk_at "b2")) ad_nil) (by exact .mk _ (by have := (dr_lo c (5 * most + nets + 2) (2 + (i0 : Int))).1; omega))) (nmOf_len _) no_part (some_part ed_int)) ed_str (b2_addS (q1_len _))) (ed_callT (T := "str") (by rfl) B.«str» bb_str (ad_cons (ed_var 6 rfl) ad_nil) (bc_strI (log_small hi0 (by omega)))) (b2_addS (q2_len _ (by omega)))) ad_nil))) (by first | (have := qN_len c (5 * most + nets + 2) i0; rw [List.length_map, sizeLine_eq]; omega) | (rw [List.length_map, qV_len, sizeLine_eq]; omega)) ?_ (fun h => ps_expr (pe_bm PySem.F.plainAttrs_list PySem.F.slot_list_append PySem.F.type_list_append mt_append (pv 5) h)))
      walk_at "env"
      refine ws_nil ?_
      refine ws_nil ?_
      refine ⟨?_, True.intro⟩
      first
        | (rw [qN_yes hf, List.map_append]; rfl)
        | (rw [qN_no hf]; rfl)
    · skip
      have hf := of_decide_eq_false hc1
      refine ws_nil ?_
      refine ws_nil ?_
      refine ⟨?_, True.intro⟩
      first
        | (rw [qN_yes hf, List.map_append]; rfl)
        | (rw [qN_no hf]; rfl)
  · intro u0 hP0
    walk_at "env"
    rw [List.length_range]
    refine ws_share 5 rfl ?_
    walk_at "env"
    refine ws_cons (ws_setO 7 nd (eo_lst ad_nil) ?_)
    walk_at "env"
    refine ws_cons (ws_forU (List.range (qm c nets most)) (fun (i : Nat) => D.int (i : Int)) rfl (id_range1 (by rfl) B.«range» (ED.eq (ed_bin (ed_bin (ed_ix (ed_var 3 rfl) ed_int (by walk_at "ix")) (ed_bin (ed_var 2 rfl) ed_int (by walk_at "b2")) (by walk_at "b2")) (ed_callT (T := "int") (by rfl) B.«int» bb_int (ad_cons (ed_cmp (ed_var 4 rfl) ed_int (by walk_at "c2")) ad_nil) (bc_intB)) (b2_mul (Or.inr (by split <;> decide)))) (show _ = D.int ((qm c nets most : Nat) : Int) from congrArg D.int (qm_mul h2.1))) (by walk_at "side")) (by rw [Int.toNat_natCast]; exact rngD0 _) (U := Sl × Sl × Sl) (fun i u => [(7, .ow (.lst ((qV c (5 * most + nets + 2) nets (qCnt c nets most) i).map Dev.e))), (8, u.1), (9, u.2.1), (10, u.2.2)]) (fun r => (r.getD 8 .no, r.getD 9 .no, r.getD 10 .no)) (fun _ => True) (rfl) (True.intro) ?_ ?_)
    · intro i1 t u1 hx1 hP1
      obtain rfl : i1 = t := by
        obtain ⟨hl, he⟩ := List.getElem?_eq_some_iff.mp hx1
        rw [List.getElem_range] at he; exact he
      have hi1 : i1 < qm c nets most := by have := (List.getElem?_eq_some_iff.mp hx1).1; rwa [List.length_range] at this
      have hcp := qm_pos hi1
      refine ⟨_, _, (dg_name 8 nd), ?_⟩
      walk_at "env"
      refine ws_cons (ws_setO 9 nd (EO.eq (c' := .lst [.int (dr c (5 * most + nets + 2) ((nets + 2 + 5 * (i1 : Int)) + 0)), .int (dr c (5 * most + nets + 2) ((nets + 2 + 5 * (i1 : Int)) + 1)), .int (dr c (5 * most + nets + 2) ((nets + 2 + 5 * (i1 : Int)) + 2)), .int (dr c (5 * most + nets + 2) ((nets + 2 + 5 * (i1 : Int)) + 3)), .int (dr c (5 * most + nets + 2) ((nets + 2 + 5 * (i1 : Int)) + 4))]) (eo_slice (ed_var 3 rfl) (some_part (ed_bin (ed_bin (ed_var 1 rfl) ed_int (by walk_at "b2")) (ed_bin ed_int (ed_var 8 rfl) (by walk_at "b2")) (by walk_at "b2"))) (some_part (ed_bin (ed_bin (ed_var 1 rfl) ed_int (by walk_at "b2")) (ed_bin ed_int (ed_var 8 rfl) (by walk_at "b2")) (by walk_at "b2")))) (by rw [show nets + 7 + 5 * (i1 : Int) = (nets + 2 + 5 * (i1 : Int)) + 5 by omega, cut5 (by omega) (by omega)])) ?_)
      refine ws_share 9 rfl ?_
      walk_at "env"
      refine ws_cons (ws_setO 10 nd (eo_callB (id := "sorted") (by rfl) B.«sorted» bb_sorted (ad_cons (ed_lst (eo_lst (ad_cons (ed_bin (ed_ix (ed_var 9 rfl) ed_int (by walk_at "ix")) (ed_var 4 rfl) (by walk_at "b2")) (ad_cons (ed_bin (ed_ix (ed_var 9 rfl) ed_int (by walk_at "ix")) (ed_var 4 rfl) (by walk_at "b2")) ad_nil)))) ad_nil) bo_sorted2) ?_)
      refine ws_share 10 rfl ?_
      walk_at "env"
      refine ws_cons (ws_append 7 rfl (ed_tup (ad_cons (ed_ix (ed_lst (eo_lst (ad_cons ed_str (ad_cons ed_str ad_nil)))) (ed_bin (ed_ix (ed_var 9 rfl) ed_int (by walk_at "ix")) ed_int (by walk_at "b2")) (ix_kind _)) (ad_cons (ed_bin (ed_ix (ed_var 9 rfl) ed_int (by walk_at "ix")) (ed_var 4 rfl) (by walk_at "b2")) (ad_cons (ed_ix (ed_var 10 rfl) ed_int (by walk_at "ix")) (ad_cons (ed_ix (ed_var 10 rfl) ed_int (by walk_at "ix")) (ad_cons (ed_bin ed_int (ed_bin (ed_ix (ed_var 9 rfl) ed_int (by walk_at "ix")) ed_int (by walk_at "b2")) (by walk_at "b2")) (ad_cons (ed_bin ed_int (ed_bin (ed_bin (ed_ix (ed_var 9 rfl) ed_int (by walk_at "ix")) ed_int (by walk_at "b2")) ed_int (by walk_at "b2")) (by walk_at "b2")) ad_nil))))))) (by first | (have := qN_len c (5 * most + nets + 2) i0; rw [List.length_map, sizeLine_eq]; omega) | (rw [List.length_map, qV_len, sizeLine_eq]; omega)) ?_ (fun h => ps_expr (pe_bm PySem.F.plainAttrs_list PySem.F.slot_list_append PySem.F.type_list_append mt_append (pv 7) h)))
      walk_at "env"
      refine ws_nil ?_
      refine ⟨?_, True.intro⟩
      rw [qV_succ, List.map_append]
      rfl
    · intro u1 hP1
      walk_at "env"
      rw [List.length_range]
      refine ws_share 7 rfl ?_
      walk_at "env"
      refine ws_cons (ws_ret (ED.eq (ed_tup (ad_cons (ed_var 4 rfl) (ad_cons (ed_var 5 rfl) (ad_cons (ed_var 7 rfl) ad_nil)))) ?_) (Or.inl rfl))
      rfl
/-! _law_qis_circuit -/
abbrev s_law_qis_circuit : Stmt := top 36
theorem sc_law_qis_circuit : FnScope ["circuit", "count", "names", "devices"] ["circuit", "count", "names", "devices"] (defScope s_law_qis_circuit) := ⟨rfl, rfl, rfl, by decide +kernel, rfl, by decide +kernel, by decide +kernel⟩
theorem ok_law_qis_circuit {f : Addr} {fd : FuncData} (F : Fun K "_law_qis_circuit" "_law_qis_circuit" s_law_qis_circuit f fd) (B : Bt mg) (KC : Kt K mg) (KL : Lt K mg) (G_law_is_number : Fn P w K mg base "_law_is_number" 2 R_law_is_number) (G_law_like_t2 : Fn P w K mg base "_law_like" 4 R_law_like_t2) (G_law_like_t2 : Fn P w K mg base "_law_like" 4 R_law_like_t2) :
    FnOk P w K mg base CX0 5 f fd ["circuit", "count", "names", "devices"] (spR K R_law_qis_circuit) := by
  refine fn_ok (k := 4) F sc_law_qis_circuit (fun ds d h => by cases h; rfl) fun ds d hR cdv A outer s H E hr => ?_
  have nd := sc_law_qis_circuit.nd
  have hu := hr.units
  rcases hR with ⟨n, N, M, V, hp, nd1, h1, h2⟩
  walk_at "en"
  refine ws_cons (ws_if (td_tw (tw_or (td_not (td_truth (ed_isC KL.«Circuit» (by rfl) B.«isinstance» (by rfl) (ed_var 0 rfl)) rfl)) (fun hb2 => (tw_or1 (td_not (td_truth (ed_call G_law_is_number (hr.mono (by decide)) (by rfl) (ad_cons (ed_fld 0 KL.«Circuit» (ed_var 0 rfl)) (ad_cons (ed_var 1 rfl) ad_nil)) (by walk_at "mk")) rfl)))))) (fun hc1 => ?_) (fun hc1 => ?_))
  · skip
    exfalso; simp at hc1
  · skip
    clear hc1
    refine ws_nil ?_
    refine ws_cons (ws_ret (ED.eq (ed_and (ed_call G_law_like_t2 (hr.mono (by decide)) (by rfl) (ad_cons (ed_fld 1 KL.«Circuit» (ed_var 0 rfl)) (ad_cons (ed_callT (T := "tuple") (by rfl) B.«tuple» bb_tuple (ad_cons (ed_lst (EO.eq (c' := .lst ((srtN N).map nmE)) (eo_sortedD (bs := M) (by rfl) B.«sorted» (.lst _) (ed_var 2 rfl) (nm_sort hu)) (by rw [show srtK nmE M = srtN N from srtN_eq hp nd1]))) ad_nil) (by walk_at "bc")) ad_nil)) (by first | exact .mk _ (by rw [List.length_map, srtN_len]; exact h1) nm_l2 | exact .mk _ (by rw [List.length_map]; exact h2) dev_l2)) (fun hb3 => (ed_one (ed_call G_law_like_t2 (hr.mono (by decide)) (by rfl) (ad_cons (ed_fld 2 KL.«Circuit» (ed_var 0 rfl)) (ad_cons (ed_callT (T := "tuple") (by rfl) B.«tuple» bb_tuple (ad_cons (ed_var 3 rfl) ad_nil) (by walk_at "bc")) ad_nil)) (by first | exact .mk _ (by rw [List.length_map, srtN_len]; exact h1) nm_l2 | exact .mk _ (by rw [List.length_map]; exact h2) dev_l2))))) ?_) (Or.inl rfl))
    rfl
/-! _law_qcircuit_lines -/
abbrev s_law_qcircuit_lines : Stmt := top 37
theorem sc_law_qcircuit_lines : FnScope ["count", "names", "devices", "lines", "device", "net", "name", "number"] ["count", "names", "devices"] (defScope s_law_qcircuit_lines) := ⟨rfl, rfl, rfl, by decide +kernel, rfl, by decide +kernel, by decide +kernel⟩
theorem ok_law_qcircuit_lines {f : Addr} {fd : FuncData} (F : Fun K "_law_qcircuit_lines" "_law_qcircuit_lines" s_law_qcircuit_lines f fd) (B : Bt mg) (KC : Kt K mg) (KL : Lt K mg)  :
    FnOk P w K mg base CX0 1 f fd ["count", "names", "devices"] (spR K R_law_qcircuit_lines) := by
  refine fn_ok (k := 0) F sc_law_qcircuit_lines (fun ds d h => by cases h; rfl) fun ds d hR cdv A outer s H E hr => ?_
  have nd := sc_law_qcircuit_lines.nd
  have hu := hr.units
  rcases hR with ⟨n, N, V, t⟩
  have hnl := t.ok.nl
  have hvl := t.ok.vl
  have s0 := t.n.sm
  have k0 := s0.len
  obtain ⟨e1, e2, e3, e4⟩ := litC_len
  have l8 := lens
  walk_at "en"
  refine ws_cons (ws_setO 3 nd (EO.eq (c' := .lst ((lsC n (srtN N) (V.take 0)).map D.str)) (eo_cat (ed_lst (eo_lst (ad_cons (ED.eq (ed_bin ed_str (ed_callT (T := "str") (by rfl) B.«str» bb_str (ad_cons (ed_var 0 rfl) ad_nil) (bc_strI s0.log)) (b2_addS (by show ("nets " : Str).length + (stI n).length ≤ _; rw [e1, sizeLine_eq]; omega))) (show _ = D.str (lnW (wN n)) from congrArg D.str (ln_N n))) ad_nil))) (ed_lst (eo_map2 [("net", 5), ("name", 6)] (srtN N) (nmE) (fun q : Nm => lnW (wQ q)) (D.str) rfl nd (blkOk_by (N := ["count", "names", "devices", "lines", "device", "net", "name", "number"]) (sc := defScope s_law_qcircuit_lines) (by decide +kernel)) (id_list (ed_lst (EO.eq (c' := .lst ((srtN N).map nmE)) (eo_sortedD (bs := N) (by rfl) B.«sorted» (.lst _) (ed_var 1 rfl) (nm_sort hu)) rfl))) (rfl) (fun q hxm => by have hq := t.q hxm; have s1 := hq.1.sm; have k1 := s1.len; have k2 := nameB_len hq.2; exact ⟨_, by rfl, fun _ _ _ _ _ => ⟨(dg_tup rfl (dgs_cons (dg_name 5 nd) (dgs_cons (dg_name 6 nd) dgs_nil))), tds_nil, (ED.eq (ed_bin (ed_bin (ed_bin ed_str (ed_var 6 rfl) (b2_addS (by show ("name " : Str).length + q.2.length ≤ _; rw [e2, sizeLine_eq]; omega))) ed_str (b2_addS (by show (("name " : Str) ++ q.2).length + (" " : Str).length ≤ _; rw [app_len, e2, e4, sizeLine_eq]; omega))) (ed_callT (T := "str") (by rfl) B.«str» bb_str (ad_cons (ed_var 5 rfl) ad_nil) (bc_strI s1.log)) (b2_addS (by show (("name " : Str) ++ q.2 ++ (" " : Str)).length + (stI q.1).length ≤ _; rw [app_len, app_len, e2, e4, sizeLine_eq]; omega))) (show _ = D.str (lnW (wQ q)) from congrArg D.str (ln_Q q)))⟩⟩) (by rw [sizeLine_eq]; omega))) (by simp only [List.length_map, List.length_cons, List.length_nil]; rw [sizeLine_eq]; omega)) (by simp [lsC])) ?_)
  walk_at "env"
  refine ws_cons (ws_forU (V) (Dev.e) rfl (id_list (ed_var 2 rfl)) (by rfl) (U := Sl) (fun i u => [(3, .ow (.lst ((lsC n (srtN N) (V.take i)).map .str))), (4, u)]) (fun r => (r.getD 4 .no)) (fun _ => True) (rfl) (True.intro) ?_ ?_)
  · intro i0 v u0 hx0 hP0
    have hdv := t.v (List.mem_of_getElem? hx0)
    refine ⟨_, _, (dg_name 4 nd), ?_⟩
    walk_at "env"
    refine ws_cons (ws_append 3 rfl (ED.eq (ed_join (zs := wV v) ed_str (.lst _) (ED.eq (ed_lst (eo_cat (ed_lst (eo_lst (ad_cons ed_str (ad_cons (ed_ix (ed_var 4 rfl) ed_int (by walk_at "ix")) ad_nil)))) (ed_lst (eo_map2 [("number", 7)] (([v.g, v.a, v.b, v.w, v.l] : List Int)) (D.int) (stI) (D.str) rfl nd (blkOk_by (N := ["count", "names", "devices", "lines", "device", "net", "name", "number"]) (sc := defScope s_law_qcircuit_lines) (by decide +kernel)) (id_tup (ED.eq (ed_sliceT (ed_var 4 rfl) (some_part ed_int) no_part) (show _ = D.tup (([v.g, v.a, v.b, v.w, v.l] : List Int).map .int) from rfl))) (rfl) (fun i hxm => ⟨_, by rfl, fun _ _ _ _ _ => ⟨(dg_name 7 nd), tds_nil, (ed_callT (T := "str") (by rfl) B.«str» bb_str (ad_cons (ed_var 7 rfl) ad_nil) (bc_strI (hdv.all i hxm).sm.log))⟩⟩) (by show 5 ≤ _; rw [sizeLine_eq]; omega))) (by show 2 + 5 ≤ _; rw [sizeLine_eq]; omega))) (show _ = D.lst ((wV v).map .str) from rfl)) (by have h1 := sumL_le (k := 41) (zs := wV v) (fun w hw => (wV_ok hdv w hw).n); have h7 : (wV v).length = 7 := rfl; rw [h7] at h1 ⊢; have := l8.2.2.2.1; rw [this]; omega)) (show _ = D.str (lnW (wV v)) from rfl)) (by rw [List.length_map, lsC_len, List.length_take, sizeLine_eq]; omega) ?_ (fun h => ps_expr (pe_bm PySem.F.plainAttrs_list PySem.F.slot_list_append PySem.F.type_list_append mt_append (pv 3) h)))
    walk_at "env"
    refine ws_nil ?_
    refine ⟨?_, True.intro⟩
    rw [lsC_snoc _ _ _ hx0]
    rfl
  · intro u0 hP0
    walk_at "env"
    rw [List.take_length]
    refine ws_share 3 rfl ?_
    walk_at "env"
    refine ws_cons (ws_ret (ED.eq (ed_var 3 rfl) ?_) (Or.inl rfl))
    rfl
/-! law -/
abbrev s_law : Stmt := top 38
theorem sc_law : FnScope ["script", "k", "many", "count", "names", "devices", "more", "text", "circuit", "found", "device"] ["script"] (defScope s_law) := ⟨rfl, rfl, rfl, by decide +kernel, rfl, by decide +kernel, by decide +kernel⟩
theorem ok_law {f : Addr} {fd : FuncData} (F : Fun K "law" "law" s_law f fd) (B : Bt mg) (KC : Kt K mg) (KL : Lt K mg) (G_Circuit_eq : FnM P w K mg base "Circuit" "__eq__" 1 R_Circuit_eq) (G_Circuit_init : FnI P w K mg base "Circuit" 3 R_Circuit_init) (G_law_cell : Fn P w K mg base "_law_cell" 1 R_law_cell) (G_law_is_text : Fn P w K mg base "_law_is_text" 1 R_law_is_text) (G_law_qcircuit : Fn P w K mg base "_law_qcircuit" 2 R_law_qcircuit) (G_law_qcircuit_lines : Fn P w K mg base "_law_qcircuit_lines" 1 R_law_qcircuit_lines) (G_law_qis_circuit : Fn P w K mg base "_law_qis_circuit" 5 R_law_qis_circuit) (G_format_circuit : Fn P w K mg base "format_circuit" 2 R_format_circuit) (G_parse_circuit : Fn P w K mg base "parse_circuit" 5 R_parse_circuit) :
    FnOk P w K mg base CX0 6 f fd ["script"] (spR K R_law) := by
  refine fn_ok (k := 5) F sc_law (fun ds d h => by cases h; rfl) fun ds d hR cdv A outer s H E hr => ?_
  have nd := sc_law.nd
  have hu := hr.units
  rcases hR with ⟨ns, hlen⟩
  obtain ⟨m, hm⟩ : ∃ m, m = wideL (cellAt ns 3) := ⟨_, rfl⟩
  have hm0 := wideL_bd (cellAt ns 3)
  rw [← hm] at hm0
  walk_at "en"
  refine ws_cons (ws_forU (List.range (3)) (fun (i : Nat) => D.int (i : Int)) rfl (id_range1 (by rfl) B.«range» ed_int (by walk_at "side")) (by exact rngD0 _) (U := Sl × Sl × Sl × Sl × Sl × Sl × Sl × Sl) (fun i u => [(1, u.1), (3, u.2.1), (4, u.2.2.1), (5, u.2.2.2.1), (6, u.2.2.2.2.1), (7, u.2.2.2.2.2.1), (8, u.2.2.2.2.2.2.1), (9, u.2.2.2.2.2.2.2)]) (fun r => (r.getD 1 .no, r.getD 3 .no, r.getD 4 .no, r.getD 5 .no, r.getD 6 .no, r.getD 7 .no, r.getD 8 .no, r.getD 9 .no)) (fun _ => True) (rfl) (True.intro) ?_ ?_)
  · intro i0 t u0 hx0 hP0
    obtain rfl : i0 = t := by
      obtain ⟨hl, he⟩ := List.getElem?_eq_some_iff.mp hx0
      rw [List.getElem_range] at he; exact he
    have hi0 : i0 < 3 := by have := (List.getElem?_eq_some_iff.mp hx0).1; rwa [List.length_range] at this
    obtain ⟨n, hn⟩ : ∃ n, n = qCnt (cellAt ns (i0 : Int)) 20 10 := ⟨_, rfl⟩
    obtain ⟨N, hN⟩ : ∃ N, N = cN (cellAt ns (i0 : Int)) 20 10 := ⟨_, rfl⟩
    obtain ⟨V0, hV0⟩ : ∃ V, V = cV (cellAt ns (i0 : Int)) 20 10 := ⟨_, rfl⟩
    have ok0 : CirOk n N V0 := by rw [hn, hN, hV0]; exact qcir_ok (by decide) (by decide)
    obtain ⟨V, hV⟩ : ∃ V, V = V0.map (addB m) := ⟨_, rfl⟩
    have ok : CirOk n N V := by rw [hV]; exact cir_addB hm0.1 ok0
    have t : TxOk n (srtN N) V := by rw [hV]; exact tx_addB hm0 ok0 (by rw [hV0]; exact drawn_small)
    refine ⟨_, _, (dg_name 1 nd), ?_⟩
    walk_at "env"
    refine ws_cons (ws_unpack (ED.eq (ed_call G_law_qcircuit (hr.mono (by decide)) (by rfl) (ad_cons (ed_call G_law_cell (hr.mono (by decide)) (by rfl) (ad_cons (ed_var 0 rfl) (ad_cons (ed_var 1 rfl) ad_nil)) (by first | exact .mk _ _ (by decide) | exact .mk _ _ (by omega))) (ad_cons ed_int (ad_cons ed_int ad_nil))) (by exact .mk _ _ _ (by decide) (by decide))) (show _ = (D.tup [.int n, .lst (N.map nmE), .lst (V0.map Dev.e)]) from by rw [hn, hN, hV0])) (dg_tup rfl (dgs_cons (dg_name 3 nd) (dgs_cons (dg_name 4 nd) (dgs_cons (dg_name 5 nd) dgs_nil)))) ?_)
    walk_at "env"
    refine ws_cons (ws_set 6 nd (ED.eq (ed_ix (ED.eq (ed_lst (eo_lst (ad_cons ed_int (ad_cons (ed_bin ed_int ed_int (b2_powL (n := 100000000000000000000000000000) ⟨by decide, by decide, by decide⟩ (by decide))) (ad_cons (ed_bin (ed_bin ed_int ed_int (b2_powL (n := 1000000000000000000000000000000) ⟨by decide, by decide, by decide⟩ (by decide))) ed_int (by walk_at "b2")) ad_nil))))) (show _ = D.lst (([0, 100000000000000000000000000000, 999999999999999999999999999990] : List Int).map .int) from rfl)) (ed_bin (ed_callT (T := "int") (by rfl) B.«int» bb_int (ad_cons (ed_call G_law_cell (hr.mono (by decide)) (by rfl) (ad_cons (ed_var 0 rfl) (ad_cons ed_int ad_nil)) (by first | exact .mk _ _ (by decide) | exact .mk _ _ (by omega))) ad_nil) (by walk_at "bc")) ed_int (by walk_at "b2")) (.l (at_getC (f := D.int) (a := 0) (by show _ ∧ _ < (3 : Int); omega)))) (show _ = D.int m by rw [hm]; rfl)) ?_)
    walk_at "env"
    refine ws_cons (ws_setMap2 5 [("device", 10)] (V0) (Dev.e) (addB m) (Dev.e) rfl nd (blkOk_by (N := ["script", "k", "many", "count", "names", "devices", "more", "text", "circuit", "found", "device"]) (sc := defScope s_law) (by decide +kernel)) (id_list (ed_var 5 rfl)) (rfl) (fun v hxm => ⟨_, by rfl, fun _ _ _ _ _ => ⟨(dg_name 10 nd), tds_nil, (ED.eq (ed_bin (ED.eq (ed_sliceT (ed_var 10 rfl) no_part (some_part ed_int)) (show _ = D.tup [.str v.k, .int v.g, .int v.a, .int v.b] from rfl)) (ed_tup (ad_cons (ed_bin (ed_ix (ed_var 10 rfl) ed_int (by walk_at "ix")) (ed_var 6 rfl) (by walk_at "b2")) (ad_cons (ed_bin (ed_ix (ed_var 10 rfl) ed_int (by walk_at "ix")) (ed_var 6 rfl) (by walk_at "b2")) ad_nil))) (b2_addT (by simp) (by simp) (by show 6 ≤ _; rw [sizeLine_eq]; decide))) (show _ = (addB m v).e from rfl))⟩⟩) (by have := ok0.vl; rw [sizeLine_eq]; omega) ?_)
    refine ws_share 5 rfl ?_
    walk_at "env"
    rw [← hV]
    refine ws_cons (ws_set 7 nd (ED.eq (ed_join (zs := lsC n (srtN N) V) ed_str (.lst _) (ed_call G_law_qcircuit_lines (hr.mono (by decide)) (by rfl) (ad_cons (ed_var 3 rfl) (ad_cons (ed_var 4 rfl) (ad_cons (ed_var 5 rfl) ad_nil))) (by first | exact .mk _ _ _ t | exact .mk _ _ _ manyP_tx)) (by have := tx_room t; exact Nat.le_trans this (by omega))) (show _ = D.str (txC n (srtN N) V) from rfl)) ?_)
    walk_at "env"
    refine ws_cons (ws_setO 8 nd (eo_make G_Circuit_init (hr.mono (by decide)) (by rfl) (ad_cons (ed_var 3 rfl) (ad_cons (ED.eq (ed_lst (eo_revL (ed_var 4 rfl))) (show _ = D.lst (N.reverse.map nmE) by rw [List.map_reverse])) (ad_cons (ed_lst (eo_callT (T := "list") (by rfl) B.«list» bb_list (ad_cons (ed_var 5 rfl) ad_nil) (by walk_at "bo"))) ad_nil))) (by exact .mk _ N.reverse V _ _ (.lst _) (.lst _) (ok.perm N.reverse_perm))) ?_)
    refine ws_share 8 rfl ?_
    walk_at "env"
    refine ws_cons (ws_if (td_not (td_truth (ed_call G_law_is_text (hr.mono (by decide)) (by rfl) (ad_cons (ed_call G_format_circuit (hr.mono (by decide)) (by rfl) (ad_cons (ED.eq (ed_var 8 rfl) (show _ = cirD n N V from cir_perm N.reverse_perm ok.d1)) ad_nil) (.mk n N V t)) (ad_cons (ed_var 7 rfl) ad_nil)) (by exact .mk _)) rfl)) (fun hc2 => ?_) (fun hc2 => ?_))
    · skip
      exfalso; simp at hc2
    · skip
      clear hc2
      refine ws_nil ?_
      refine ws_cons (ws_set 9 nd (ED.eq (ed_call G_parse_circuit (hr.mono (by decide)) (by rfl) (ad_cons (ed_var 7 rfl) ad_nil) (.mk n (srtN N) V t (srtN_lt ok.d1))) (show _ = cirD n N V from cir_perm (srtN_perm N) ok.d1)) ?_)
      walk_at "env"
      refine ws_cons (ws_if (td_tw (tw_or (td_not (td_truth (ed_call G_law_qis_circuit (hr.mono (by decide)) (by rfl) (ad_cons (ed_var 9 rfl) (ad_cons (ed_var 3 rfl) (ad_cons (ed_var 4 rfl) (ad_cons (ed_var 5 rfl) ad_nil)))) (by exact .mk _ N N V (List.Perm.refl _) ok.d1 ok.nl (by have := ok.vl; omega))) rfl)) (fun hb4 => (tw_or1 (td_cmp (ED.eq (ed_cmp (ED.eq (ed_var 9 rfl) (show _ = cirD n (srtN N) V from (cir_perm (srtN_perm N) ok.d1).symm)) (ed_var 8 rfl) (c2_eqObj G_Circuit_eq (hr.mono (by decide)) (.mk n n (srtN N) N.reverse V V t.ok (ok.perm N.reverse_perm))) (by rfl)) (show _ = D.bl true from congrArg D.bl (cirEq_srt ok.d1))) ed_bl (by walk_at "c2")))))) (fun hc3 => ?_) (fun hc3 => ?_))
      · skip
        exfalso; simp at hc3
      · skip
        clear hc3
        refine ws_nil ?_
        refine ws_nil ?_
        exact ⟨rfl, True.intro⟩
  · intro u0 hP0
    walk_at "env"
    refine ws_cons (ws_set 2 nd (ed_call G_law_qcircuit_lines (hr.mono (by decide)) (by rfl) (ad_cons ed_int (ad_cons (ED.eq (ed_lst (eo_lst (ad_cons (ed_tup (ad_cons ed_int (ad_cons ed_str ad_nil))) ad_nil))) (show _ = (D.lst (manyN.map nmE)) from by rfl)) (ad_cons (ED.eq (ed_lst (eo_rep (EO.eq (eo_lst (ad_cons (ed_tup (ad_cons ed_str (ad_cons ed_int (ad_cons ed_int (ad_cons ed_int (ad_cons ed_int (ad_cons ed_int ad_nil))))))) ad_nil)) (show _ = OC.lst [manP.e] from rfl)) ed_int (by decide) (by decide) (by simp only [List.length_cons, List.length_nil]; decide))) (show _ = D.lst (manyP.map Dev.e) from congrArg D.lst manyP_D)) ad_nil))) (by first | exact .mk _ _ _ t | exact .mk _ _ _ manyP_tx)) ?_)
    walk_at "env"
    refine ws_cons (ws_ret (ED.eq (ed_cmp (ed_callB (id := "len") (by rfl) B.«len» bb_len (ad_cons (ed_fld 2 KL.«Circuit» (ED.eq (ed_call G_parse_circuit (hr.mono (by decide)) (by rfl) (ad_cons (ED.eq (ed_join (zs := lsC 200 (srtN manyN) manyP) ed_str (.lst _) (ed_var 2 rfl) (by have := tx_room manyP_tx; exact Nat.le_trans this (by omega))) (show _ = D.str (txC 200 (srtN manyN) manyP) from rfl)) ad_nil) (.mk 200 (srtN manyN) manyP manyP_tx (srtN_lt manyP_ok.d1))) (show _ = cirD 200 manyN manyP from cir_perm (srtN_perm manyN) manyP_ok.d1))) ad_nil) (by walk_at "bc")) ed_int (by walk_at "c2")) ?_) (Or.inl rfl))
    rfl
end
theorem all_mk {l : PySem.W.OpenLaw} {w : World} {K : PySem.W.Frag} {h : Heap} {mg : Str → Option Value} {fa : Addr} (X : K.In h) (G : h.Ns mainGlobals mg) (hfa : mg "law" = some (.ref fa))
    {C_Circuit : Addr} (aC_Circuit : PySem.W.nsIn K mainGlobals "Circuit" = some (some (.ref C_Circuit)))
    (pg_Circuit : PySem.W.plainGet K C_Circuit Str.empty = true) (hd_Circuit : PySem.W.hasDictIn K C_Circuit = true) (po_Circuit : PySem.W.plainOver K C_Circuit = true) (sa_Circuit : PySem.W.findIn K (.ref C_Circuit) "__setattr__" = some (some (.builtin "object.__setattr__"))) (ha_Circuit : PySem.W.findIn K (.ref C_Circuit) "__class__" = some (some (.builtin "object.__class__"))) (hn_Circuit : PySem.W.specialIn K (.builtin "object.__class__") "__get__" = some (some (.builtin "getset_descriptor.__get__"))) (htk_Circuit : PySem.W.takesIn K (.builtin "object.__class__") = some true) (hm_Circuit : PySem.W.mroIn K C_Circuit (.type "object") = some true) (kc_Circuit : PySem.W.keepIn K (.ref C_Circuit) = true) (mk_Circuit : PySem.W.makesIn K C_Circuit = true)
    (na0_Circuit : PySem.W.findIn K (.ref C_Circuit) "net_count" = some none)
    (na1_Circuit : PySem.W.findIn K (.ref C_Circuit) "names" = some none)
    (na2_Circuit : PySem.W.findIn K (.ref C_Circuit) "devices" = some none)
    (na3_Circuit : PySem.W.findIn K (.ref C_Circuit) "_name_table" = some none)
    {f0 : Addr} {od0 an0 : Option Addr} {sl0 : Array (Option Value)} {oc0 kV0 dc0 pm0 cd0 ct0 : Value} (a0 : PySem.W.nsIn K mainGlobals "is_name" = some (some (.ref f0))) (l0 : K.lookup f0 = some ⟨oc0, od0, .func (PySem.W.fnOf "is_name" "is_name" (defArgs s_is_name) (defBody s_is_name) (defScope s_is_name) .none kV0 dc0 pm0 an0 cd0 ct0), sl0⟩) (c0 : PySem.W.codeIn K cd0 "is_name" = true) (k0 : PySem.W.keepIn K (.ref f0) = true)
    {f1 : Addr} {od1 an1 : Option Addr} {sl1 : Array (Option Value)} {oc1 kV1 dc1 pm1 cd1 ct1 : Value} (a1 : PySem.W.nsIn K mainGlobals "is_net_count" = some (some (.ref f1))) (l1 : K.lookup f1 = some ⟨oc1, od1, .func (PySem.W.fnOf "is_net_count" "is_net_count" (defArgs s_is_net_count) (defBody s_is_net_count) (defScope s_is_net_count) .none kV1 dc1 pm1 an1 cd1 ct1), sl1⟩) (c1 : PySem.W.codeIn K cd1 "is_net_count" = true) (k1 : PySem.W.keepIn K (.ref f1) = true)
    {f2 : Addr} {od2 an2 : Option Addr} {sl2 : Array (Option Value)} {oc2 kV2 dc2 pm2 cd2 ct2 : Value} (a2 : PySem.W.nsIn K mainGlobals "is_device" = some (some (.ref f2))) (l2 : K.lookup f2 = some ⟨oc2, od2, .func (PySem.W.fnOf "is_device" "is_device" (defArgs s_is_device) (defBody s_is_device) (defScope s_is_device) .none kV2 dc2 pm2 an2 cd2 ct2), sl2⟩) (c2 : PySem.W.codeIn K cd2 "is_device" = true) (k2 : PySem.W.keepIn K (.ref f2) = true)
    {f3 : Addr} {od3 an3 : Option Addr} {sl3 : Array (Option Value)} {oc3 kV3 dc3 pm3 cd3 ct3 : Value} (a3 : PySem.W.nsIn K mainGlobals "are_names" = some (some (.ref f3))) (l3 : K.lookup f3 = some ⟨oc3, od3, .func (PySem.W.fnOf "are_names" "are_names" (defArgs s_are_names) (defBody s_are_names) (defScope s_are_names) .none kV3 dc3 pm3 an3 cd3 ct3), sl3⟩) (c3 : PySem.W.codeIn K cd3 "are_names" = true) (k3 : PySem.W.keepIn K (.ref f3) = true)
    {f4 : Addr} {od4 an4 : Option Addr} {sl4 : Array (Option Value)} {oc4 kV4 dc4 pm4 cd4 ct4 : Value} (a4 : PySem.W.findIn K (.ref C_Circuit) "__init__" = some (some (.ref f4))) (i4 : PySem.W.isFn K (.ref f4) = true) (l4 : K.lookup f4 = some ⟨oc4, od4, .func (PySem.W.fnOf "__init__" "Circuit.__init__" (defArgs s_Circuit_init) (defBody s_Circuit_init) (defScope s_Circuit_init) .none kV4 dc4 pm4 an4 cd4 ct4), sl4⟩) (c4 : PySem.W.codeIn K cd4 "Circuit.__init__" = true) (k4 : PySem.W.keepIn K (.ref f4) = true)
    {f5 : Addr} {od5 an5 : Option Addr} {sl5 : Array (Option Value)} {oc5 kV5 dc5 pm5 cd5 ct5 : Value} (a5 : PySem.W.findIn K (.ref C_Circuit) "__eq__" = some (some (.ref f5))) (i5 : PySem.W.isFn K (.ref f5) = true) (l5 : K.lookup f5 = some ⟨oc5, od5, .func (PySem.W.fnOf "__eq__" "Circuit.__eq__" (defArgs s_Circuit_eq) (defBody s_Circuit_eq) (defScope s_Circuit_eq) .none kV5 dc5 pm5 an5 cd5 ct5), sl5⟩) (c5 : PySem.W.codeIn K cd5 "Circuit.__eq__" = true) (k5 : PySem.W.keepIn K (.ref f5) = true)
    {f6 : Addr} {od6 an6 : Option Addr} {sl6 : Array (Option Value)} {oc6 kV6 dc6 pm6 cd6 ct6 : Value} (a6 : PySem.W.nsIn K mainGlobals "is_integer" = some (some (.ref f6))) (l6 : K.lookup f6 = some ⟨oc6, od6, .func (PySem.W.fnOf "is_integer" "is_integer" (defArgs s_is_integer) (defBody s_is_integer) (defScope s_is_integer) .none kV6 dc6 pm6 an6 cd6 ct6), sl6⟩) (c6 : PySem.W.codeIn K cd6 "is_integer" = true) (k6 : PySem.W.keepIn K (.ref f6) = true)
    {f7 : Addr} {od7 an7 : Option Addr} {sl7 : Array (Option Value)} {oc7 kV7 dc7 pm7 cd7 ct7 : Value} (a7 : PySem.W.nsIn K mainGlobals "read_integers" = some (some (.ref f7))) (l7 : K.lookup f7 = some ⟨oc7, od7, .func (PySem.W.fnOf "read_integers" "read_integers" (defArgs s_read_integers) (defBody s_read_integers) (defScope s_read_integers) .none kV7 dc7 pm7 an7 cd7 ct7), sl7⟩) (c7 : PySem.W.codeIn K cd7 "read_integers" = true) (k7 : PySem.W.keepIn K (.ref f7) = true)
    {f8 : Addr} {od8 an8 : Option Addr} {sl8 : Array (Option Value)} {oc8 kV8 dc8 pm8 cd8 ct8 : Value} (a8 : PySem.W.nsIn K mainGlobals "device_line" = some (some (.ref f8))) (l8 : K.lookup f8 = some ⟨oc8, od8, .func (PySem.W.fnOf "device_line" "device_line" (defArgs s_device_line) (defBody s_device_line) (defScope s_device_line) .none kV8 dc8 pm8 an8 cd8 ct8), sl8⟩) (c8 : PySem.W.codeIn K cd8 "device_line" = true) (k8 : PySem.W.keepIn K (.ref f8) = true)
    {f9 : Addr} {od9 an9 : Option Addr} {sl9 : Array (Option Value)} {oc9 kV9 dc9 pm9 cd9 ct9 : Value} (a9 : PySem.W.nsIn K mainGlobals "format_circuit" = some (some (.ref f9))) (l9 : K.lookup f9 = some ⟨oc9, od9, .func (PySem.W.fnOf "format_circuit" "format_circuit" (defArgs s_format_circuit) (defBody s_format_circuit) (defScope s_format_circuit) .none kV9 dc9 pm9 an9 cd9 ct9), sl9⟩) (c9 : PySem.W.codeIn K cd9 "format_circuit" = true) (k9 : PySem.W.keepIn K (.ref f9) = true)
    {f10 : Addr} {od10 an10 : Option Addr} {sl10 : Array (Option Value)} {oc10 kV10 dc10 pm10 cd10 ct10 : Value} (a10 : PySem.W.nsIn K mainGlobals "net_count_in" = some (some (.ref f10))) (l10 : K.lookup f10 = some ⟨oc10, od10, .func (PySem.W.fnOf "net_count_in" "net_count_in" (defArgs s_net_count_in) (defBody s_net_count_in) (defScope s_net_count_in) .none kV10 dc10 pm10 an10 cd10 ct10), sl10⟩) (c10 : PySem.W.codeIn K cd10 "net_count_in" = true) (k10 : PySem.W.keepIn K (.ref f10) = true)
    {f11 : Addr} {od11 an11 : Option Addr} {sl11 : Array (Option Value)} {oc11 kV11 dc11 pm11 cd11 ct11 : Value} (a11 : PySem.W.nsIn K mainGlobals "name_in" = some (some (.ref f11))) (l11 : K.lookup f11 = some ⟨oc11, od11, .func (PySem.W.fnOf "name_in" "name_in" (defArgs s_name_in_q) (defBody s_name_in_q) (defScope s_name_in_q) .none kV11 dc11 pm11 an11 cd11 ct11), sl11⟩) (c11 : PySem.W.codeIn K cd11 "name_in" = true) (k11 : PySem.W.keepIn K (.ref f11) = true)
    {f12 : Addr} {od12 an12 : Option Addr} {sl12 : Array (Option Value)} {oc12 kV12 dc12 pm12 cd12 ct12 : Value} (a12 : PySem.W.nsIn K mainGlobals "device_in" = some (some (.ref f12))) (l12 : K.lookup f12 = some ⟨oc12, od12, .func (PySem.W.fnOf "device_in" "device_in" (defArgs s_device_in_v) (defBody s_device_in_v) (defScope s_device_in_v) .none kV12 dc12 pm12 an12 cd12 ct12), sl12⟩) (c12 : PySem.W.codeIn K cd12 "device_in" = true) (k12 : PySem.W.keepIn K (.ref f12) = true)
    {f13 : Addr} {od13 an13 : Option Addr} {sl13 : Array (Option Value)} {oc13 kV13 dc13 pm13 cd13 ct13 : Value} (a13 : PySem.W.nsIn K mainGlobals "parse_circuit" = some (some (.ref f13))) (l13 : K.lookup f13 = some ⟨oc13, od13, .func (PySem.W.fnOf "parse_circuit" "parse_circuit" (defArgs s_parse_circuit) (defBody s_parse_circuit) (defScope s_parse_circuit) .none kV13 dc13 pm13 an13 cd13 ct13), sl13⟩) (c13 : PySem.W.codeIn K cd13 "parse_circuit" = true) (k13 : PySem.W.keepIn K (.ref f13) = true)
    {f14 : Addr} {od14 an14 : Option Addr} {sl14 : Array (Option Value)} {oc14 kV14 dc14 pm14 cd14 ct14 : Value} (a14 : PySem.W.nsIn K mainGlobals "_law_cell" = some (some (.ref f14))) (l14 : K.lookup f14 = some ⟨oc14, od14, .func (PySem.W.fnOf "_law_cell" "_law_cell" (defArgs s_law_cell) (defBody s_law_cell) (defScope s_law_cell) .none kV14 dc14 pm14 an14 cd14 ct14), sl14⟩) (c14 : PySem.W.codeIn K cd14 "_law_cell" = true) (k14 : PySem.W.keepIn K (.ref f14) = true)
    {f15 : Addr} {od15 an15 : Option Addr} {sl15 : Array (Option Value)} {oc15 kV15 dc15 pm15 cd15 ct15 : Value} (a15 : PySem.W.nsIn K mainGlobals "_law_draws" = some (some (.ref f15))) (l15 : K.lookup f15 = some ⟨oc15, od15, .func (PySem.W.fnOf "_law_draws" "_law_draws" (defArgs s_law_draws) (defBody s_law_draws) (defScope s_law_draws) .none kV15 dc15 pm15 an15 cd15 ct15), sl15⟩) (c15 : PySem.W.codeIn K cd15 "_law_draws" = true) (k15 : PySem.W.keepIn K (.ref f15) = true)
    {f16 : Addr} {od16 an16 : Option Addr} {sl16 : Array (Option Value)} {oc16 kV16 dc16 pm16 cd16 ct16 : Value} (a16 : PySem.W.nsIn K mainGlobals "_law_is_int" = some (some (.ref f16))) (l16 : K.lookup f16 = some ⟨oc16, od16, .func (PySem.W.fnOf "_law_is_int" "_law_is_int" (defArgs s_law_is_int) (defBody s_law_is_int) (defScope s_law_is_int) .none kV16 dc16 pm16 an16 cd16 ct16), sl16⟩) (c16 : PySem.W.codeIn K cd16 "_law_is_int" = true) (k16 : PySem.W.keepIn K (.ref f16) = true)
    {f17 : Addr} {od17 an17 : Option Addr} {sl17 : Array (Option Value)} {oc17 kV17 dc17 pm17 cd17 ct17 : Value} (a17 : PySem.W.nsIn K mainGlobals "_law_is_text" = some (some (.ref f17))) (l17 : K.lookup f17 = some ⟨oc17, od17, .func (PySem.W.fnOf "_law_is_text" "_law_is_text" (defArgs s_law_is_text) (defBody s_law_is_text) (defScope s_law_is_text) .none kV17 dc17 pm17 an17 cd17 ct17), sl17⟩) (c17 : PySem.W.codeIn K cd17 "_law_is_text" = true) (k17 : PySem.W.keepIn K (.ref f17) = true)
    {f18 : Addr} {od18 an18 : Option Addr} {sl18 : Array (Option Value)} {oc18 kV18 dc18 pm18 cd18 ct18 : Value} (a18 : PySem.W.nsIn K mainGlobals "_law_is_number" = some (some (.ref f18))) (l18 : K.lookup f18 = some ⟨oc18, od18, .func (PySem.W.fnOf "_law_is_number" "_law_is_number" (defArgs s_law_is_number) (defBody s_law_is_number) (defScope s_law_is_number) .none kV18 dc18 pm18 an18 cd18 ct18), sl18⟩) (c18 : PySem.W.codeIn K cd18 "_law_is_number" = true) (k18 : PySem.W.keepIn K (.ref f18) = true)
    {f19 : Addr} {od19 an19 : Option Addr} {sl19 : Array (Option Value)} {oc19 kV19 dc19 pm19 cd19 ct19 : Value} (a19 : PySem.W.nsIn K mainGlobals "_law_name" = some (some (.ref f19))) (l19 : K.lookup f19 = some ⟨oc19, od19, .func (PySem.W.fnOf "_law_name" "_law_name" (defArgs s_law_name) (defBody s_law_name) (defScope s_law_name) .none kV19 dc19 pm19 an19 cd19 ct19), sl19⟩) (c19 : PySem.W.codeIn K cd19 "_law_name" = true) (k19 : PySem.W.keepIn K (.ref f19) = true)
    {f20 : Addr} {od20 an20 : Option Addr} {sl20 : Array (Option Value)} {oc20 kV20 dc20 pm20 cd20 ct20 : Value} (a20 : PySem.W.nsIn K mainGlobals "_law_like" = some (some (.ref f20))) (l20 : K.lookup f20 = some ⟨oc20, od20, .func (PySem.W.fnOf "_law_like" "_law_like" (defArgs s_law_like_int) (defBody s_law_like_int) (defScope s_law_like_int) .none kV20 dc20 pm20 an20 cd20 ct20), sl20⟩) (c20 : PySem.W.codeIn K cd20 "_law_like" = true) (k20 : PySem.W.keepIn K (.ref f20) = true)
    {f21 : Addr} {od21 an21 : Option Addr} {sl21 : Array (Option Value)} {oc21 kV21 dc21 pm21 cd21 ct21 : Value} (a21 : PySem.W.nsIn K mainGlobals "_law_qcircuit" = some (some (.ref f21))) (l21 : K.lookup f21 = some ⟨oc21, od21, .func (PySem.W.fnOf "_law_qcircuit" "_law_qcircuit" (defArgs s_law_qcircuit) (defBody s_law_qcircuit) (defScope s_law_qcircuit) .none kV21 dc21 pm21 an21 cd21 ct21), sl21⟩) (c21 : PySem.W.codeIn K cd21 "_law_qcircuit" = true) (k21 : PySem.W.keepIn K (.ref f21) = true)
    {f22 : Addr} {od22 an22 : Option Addr} {sl22 : Array (Option Value)} {oc22 kV22 dc22 pm22 cd22 ct22 : Value} (a22 : PySem.W.nsIn K mainGlobals "_law_qis_circuit" = some (some (.ref f22))) (l22 : K.lookup f22 = some ⟨oc22, od22, .func (PySem.W.fnOf "_law_qis_circuit" "_law_qis_circuit" (defArgs s_law_qis_circuit) (defBody s_law_qis_circuit) (defScope s_law_qis_circuit) .none kV22 dc22 pm22 an22 cd22 ct22), sl22⟩) (c22 : PySem.W.codeIn K cd22 "_law_qis_circuit" = true) (k22 : PySem.W.keepIn K (.ref f22) = true)
    {f23 : Addr} {od23 an23 : Option Addr} {sl23 : Array (Option Value)} {oc23 kV23 dc23 pm23 cd23 ct23 : Value} (a23 : PySem.W.nsIn K mainGlobals "_law_qcircuit_lines" = some (some (.ref f23))) (l23 : K.lookup f23 = some ⟨oc23, od23, .func (PySem.W.fnOf "_law_qcircuit_lines" "_law_qcircuit_lines" (defArgs s_law_qcircuit_lines) (defBody s_law_qcircuit_lines) (defScope s_law_qcircuit_lines) .none kV23 dc23 pm23 an23 cd23 ct23), sl23⟩) (c23 : PySem.W.codeIn K cd23 "_law_qcircuit_lines" = true) (k23 : PySem.W.keepIn K (.ref f23) = true)
    {f24 : Addr} {od24 an24 : Option Addr} {sl24 : Array (Option Value)} {oc24 kV24 dc24 pm24 cd24 ct24 : Value} (a24 : PySem.W.nsIn K mainGlobals "law" = some (some (.ref f24))) (l24 : K.lookup f24 = some ⟨oc24, od24, .func (PySem.W.fnOf "law" "law" (defArgs s_law) (defBody s_law) (defScope s_law) .none kV24 dc24 pm24 an24 cd24 ct24), sl24⟩) (c24 : PySem.W.codeIn K cd24 "law" = true) (k24 : PySem.W.keepIn K (.ref f24) = true)
    (z_all : PySem.W.nsIn K mainGlobals "all" = some none)
    (z_bool : PySem.W.nsIn K mainGlobals "bool" = some none)
    (z_dict : PySem.W.nsIn K mainGlobals "dict" = some none)
    (z_enumerate : PySem.W.nsIn K mainGlobals "enumerate" = some none)
    (z_int : PySem.W.nsIn K mainGlobals "int" = some none)
    (z_isinstance : PySem.W.nsIn K mainGlobals "isinstance" = some none)
    (z_len : PySem.W.nsIn K mainGlobals "len" = some none)
    (z_list : PySem.W.nsIn K mainGlobals "list" = some none)
    (z_range : PySem.W.nsIn K mainGlobals "range" = some none)
    (z_set : PySem.W.nsIn K mainGlobals "set" = some none)
    (z_sorted : PySem.W.nsIn K mainGlobals "sorted" = some none)
    (z_str : PySem.W.nsIn K mainGlobals "str" = some none)
    (z_tuple : PySem.W.nsIn K mainGlobals "tuple" = some none)
    {u_KINDS : Value} (y_KINDS : PySem.W.nsIn K mainGlobals "KINDS" = some (some u_KINDS)) (w_KINDS : KD K (.tup [.str "n", .str "p"]) u_KINDS)
    {u_MOST_CHARACTERS : Value} (y_MOST_CHARACTERS : PySem.W.nsIn K mainGlobals "MOST_CHARACTERS" = some (some u_MOST_CHARACTERS)) (w_MOST_CHARACTERS : KD K (.int 12) u_MOST_CHARACTERS)
    {u_MOST_DEVICES : Value} (y_MOST_DEVICES : PySem.W.nsIn K mainGlobals "MOST_DEVICES" = some (some u_MOST_DEVICES)) (w_MOST_DEVICES : KD K (.int 200) u_MOST_DEVICES)
    {u_MOST_DIGITS : Value} (y_MOST_DIGITS : PySem.W.nsIn K mainGlobals "MOST_DIGITS" = some (some u_MOST_DIGITS)) (w_MOST_DIGITS : KD K (.int 30) u_MOST_DIGITS)
    {u_MOST_NETS : Value} (y_MOST_NETS : PySem.W.nsIn K mainGlobals "MOST_NETS" = some (some u_MOST_NETS)) (w_MOST_NETS : KD K (.int 200) u_MOST_NETS)
    : ∃ fd : FuncData, (∀ (s : Shared) (v : Value), BindsTo s fd ⟨[v], []⟩ [("script", v)]) ∧ ∀ base : Heap, K.In base → base.Ns mainGlobals mg → FnOk l.prog w K mg base CX0 6 fa fd ["script"] (spR K RLaw) := by
  have e := hfa.symm.trans (PySem.W.mg_of X G a24)
  cases e
  have B : Bt mg := ⟨PySem.W.mg_none_of X G z_all, PySem.W.mg_none_of X G z_bool, PySem.W.mg_none_of X G z_dict, PySem.W.mg_none_of X G z_enumerate, PySem.W.mg_none_of X G z_int, PySem.W.mg_none_of X G z_isinstance, PySem.W.mg_none_of X G z_len, PySem.W.mg_none_of X G z_list, PySem.W.mg_none_of X G z_range, PySem.W.mg_none_of X G z_set, PySem.W.mg_none_of X G z_sorted, PySem.W.mg_none_of X G z_str, PySem.W.mg_none_of X G z_tuple⟩
  have KC : Kt K mg := ⟨⟨⟨u_KINDS, PySem.W.mg_of X G y_KINDS, w_KINDS⟩⟩, ⟨⟨u_MOST_CHARACTERS, PySem.W.mg_of X G y_MOST_CHARACTERS, w_MOST_CHARACTERS⟩⟩, ⟨⟨u_MOST_DEVICES, PySem.W.mg_of X G y_MOST_DEVICES, w_MOST_DEVICES⟩⟩, ⟨⟨u_MOST_DIGITS, PySem.W.mg_of X G y_MOST_DIGITS, w_MOST_DIGITS⟩⟩, ⟨⟨u_MOST_NETS, PySem.W.mg_of X G y_MOST_NETS, w_MOST_NETS⟩⟩⟩
  have KL : Lt K mg := ⟨⟨⟨C_Circuit, aC_Circuit, PySem.W.mg_of X G aC_Circuit, ⟨⟨pg_Circuit, hd_Circuit, po_Circuit, sa_Circuit⟩, ha_Circuit, hn_Circuit, htk_Circuit, hm_Circuit, kit_self⟩, kc_Circuit, (List.forall_mem_cons.mpr ⟨na0_Circuit, (List.forall_mem_cons.mpr ⟨na1_Circuit, (List.forall_mem_cons.mpr ⟨na2_Circuit, (List.forall_mem_cons.mpr ⟨na3_Circuit, fun _ h => absurd h (by simp)⟩)⟩)⟩)⟩)⟩⟩⟩
  have F0 := fun_mk (st := s_is_name) l0 c0 k0
  have b0 := F0.binds (ps := ["name"]) fun _ _ _ _ _ _ us hl => match us, hl with | [_], _ => rfl
  have F1 := fun_mk (st := s_is_net_count) l1 c1 k1
  have b1 := F1.binds (ps := ["net_count"]) fun _ _ _ _ _ _ us hl => match us, hl with | [_], _ => rfl
  have F2 := fun_mk (st := s_is_device) l2 c2 k2
  have b2 := F2.binds (ps := ["device", "net_count"]) fun _ _ _ _ _ _ us hl => match us, hl with | [_, _], _ => rfl
  have F3 := fun_mk (st := s_are_names) l3 c3 k3
  have b3 := F3.binds (ps := ["names", "net_count"]) fun _ _ _ _ _ _ us hl => match us, hl with | [_, _], _ => rfl
  have F4 := fun_mk (st := s_Circuit_init) l4 c4 k4
  have b4 := F4.binds (ps := ["self", "net_count", "names", "devices"]) fun _ _ _ _ _ _ us hl => match us, hl with | [_, _, _, _], _ => rfl
  have F5 := fun_mk (st := s_Circuit_eq) l5 c5 k5
  have b5 := F5.binds (ps := ["self", "other"]) fun _ _ _ _ _ _ us hl => match us, hl with | [_, _], _ => rfl
  have F6 := fun_mk (st := s_is_integer) l6 c6 k6
  have b6 := F6.binds (ps := ["word"]) fun _ _ _ _ _ _ us hl => match us, hl with | [_], _ => rfl
  have F7 := fun_mk (st := s_read_integers) l7 c7 k7
  have b7 := F7.binds (ps := ["words"]) fun _ _ _ _ _ _ us hl => match us, hl with | [_], _ => rfl
  have F8 := fun_mk (st := s_device_line) l8 c8 k8
  have b8 := F8.binds (ps := ["device"]) fun _ _ _ _ _ _ us hl => match us, hl with | [_], _ => rfl
  have F9 := fun_mk (st := s_format_circuit) l9 c9 k9
  have b9 := F9.binds (ps := ["circuit"]) fun _ _ _ _ _ _ us hl => match us, hl with | [_], _ => rfl
  have F10 := fun_mk (st := s_net_count_in) l10 c10 k10
  have b10 := F10.binds (ps := ["words"]) fun _ _ _ _ _ _ us hl => match us, hl with | [_], _ => rfl
  have F11 := fun_mk (st := s_name_in_q) l11 c11 k11
  have b11 := F11.binds (ps := ["words", "net_count", "names"]) fun _ _ _ _ _ _ us hl => match us, hl with | [_, _, _], _ => rfl
  have F12 := fun_mk (st := s_device_in_v) l12 c12 k12
  have b12 := F12.binds (ps := ["words", "net_count"]) fun _ _ _ _ _ _ us hl => match us, hl with | [_, _], _ => rfl
  have F13 := fun_mk (st := s_parse_circuit) l13 c13 k13
  have b13 := F13.binds (ps := ["text"]) fun _ _ _ _ _ _ us hl => match us, hl with | [_], _ => rfl
  have F14 := fun_mk (st := s_law_cell) l14 c14 k14
  have b14 := F14.binds (ps := ["script", "k"]) fun _ _ _ _ _ _ us hl => match us, hl with | [_, _], _ => rfl
  have F15 := fun_mk (st := s_law_draws) l15 c15 k15
  have b15 := F15.binds (ps := ["cell", "count"]) fun _ _ _ _ _ _ us hl => match us, hl with | [_, _], _ => rfl
  have F16 := fun_mk (st := s_law_is_int) l16 c16 k16
  have b16 := F16.binds (ps := ["x"]) fun _ _ _ _ _ _ us hl => match us, hl with | [_], _ => rfl
  have F17 := fun_mk (st := s_law_is_text) l17 c17 k17
  have b17 := F17.binds (ps := ["x", "due"]) fun _ _ _ _ _ _ us hl => match us, hl with | [_, _], _ => rfl
  have F18 := fun_mk (st := s_law_is_number) l18 c18 k18
  have b18 := F18.binds (ps := ["x", "due"]) fun _ _ _ _ _ _ us hl => match us, hl with | [_, _], _ => rfl
  have F19 := fun_mk (st := s_law_name) l19 c19 k19
  have b19 := F19.binds (ps := ["draw"]) fun _ _ _ _ _ _ us hl => match us, hl with | [_], _ => rfl
  have F20 := fun_mk (st := s_law_like_int) l20 c20 k20
  have b20 := F20.binds (ps := ["actual", "due"]) fun _ _ _ _ _ _ us hl => match us, hl with | [_, _], _ => rfl
  have F21 := fun_mk (st := s_law_qcircuit) l21 c21 k21
  have b21 := F21.binds (ps := ["cell", "nets", "most"]) fun _ _ _ _ _ _ us hl => match us, hl with | [_, _, _], _ => rfl
  have F22 := fun_mk (st := s_law_qis_circuit) l22 c22 k22
  have b22 := F22.binds (ps := ["circuit", "count", "names", "devices"]) fun _ _ _ _ _ _ us hl => match us, hl with | [_, _, _, _], _ => rfl
  have F23 := fun_mk (st := s_law_qcircuit_lines) l23 c23 k23
  have b23 := F23.binds (ps := ["count", "names", "devices"]) fun _ _ _ _ _ _ us hl => match us, hl with | [_, _, _], _ => rfl
  have F24 := fun_mk (st := s_law) l24 c24 k24
  refine ⟨PySem.W.fnOf "law" "law" (defArgs s_law) (defBody s_law) (defScope s_law) .none kV24 dc24 pm24 an24 cd24 ct24, fun s v => .of_eq rfl, fun base _ _ => ?_⟩
  have G_is_name : Fn l.prog w K mg base "is_name" 1 R_is_name := fn_wrap (PySem.W.mg_of X G a0) b0 F0.kp (ok_is_name F0 B KC KL )
  have G_is_net_count : Fn l.prog w K mg base "is_net_count" 1 R_is_net_count := fn_wrap (PySem.W.mg_of X G a1) b1 F1.kp (ok_is_net_count F1 B KC KL )
  have G_is_device : Fn l.prog w K mg base "is_device" 1 R_is_device := fn_wrap (PySem.W.mg_of X G a2) b2 F2.kp (ok_is_device F2 B KC KL )
  have G_Circuit_eq : FnM l.prog w K mg base "Circuit" "__eq__" 1 R_Circuit_eq := ⟨⟨C_Circuit, f5, _, _, aC_Circuit, ⟨pg_Circuit, hd_Circuit, po_Circuit, sa_Circuit⟩, ⟨a5, i5, k5⟩, ok_Circuit_eq F5 B KC KL , b5⟩⟩
  have G_is_integer : Fn l.prog w K mg base "is_integer" 1 R_is_integer := fn_wrap (PySem.W.mg_of X G a6) b6 F6.kp (ok_is_integer F6 B KC KL )
  have G_device_line : Fn l.prog w K mg base "device_line" 1 R_device_line := fn_wrap (PySem.W.mg_of X G a8) b8 F8.kp (ok_device_line F8 B KC KL )
  have G_law_cell : Fn l.prog w K mg base "_law_cell" 1 R_law_cell := fn_wrap (PySem.W.mg_of X G a14) b14 F14.kp (ok_law_cell F14 B KC KL )
  have G_law_draws : Fn l.prog w K mg base "_law_draws" 1 R_law_draws := fn_wrap (PySem.W.mg_of X G a15) b15 F15.kp (ok_law_draws F15 B KC KL )
  have G_law_is_int : Fn l.prog w K mg base "_law_is_int" 1 R_law_is_int := fn_wrap (PySem.W.mg_of X G a16) b16 F16.kp (ok_law_is_int F16 B KC KL )
  have G_law_is_text : Fn l.prog w K mg base "_law_is_text" 1 R_law_is_text := fn_wrap (PySem.W.mg_of X G a17) b17 F17.kp (ok_law_is_text F17 B KC KL )
  have G_law_name : Fn l.prog w K mg base "_law_name" 1 R_law_name := fn_wrap (PySem.W.mg_of X G a19) b19 F19.kp (ok_law_name F19 B KC KL )
  have G_law_qcircuit_lines : Fn l.prog w K mg base "_law_qcircuit_lines" 1 R_law_qcircuit_lines := fn_wrap (PySem.W.mg_of X G a23) b23 F23.kp (ok_law_qcircuit_lines F23 B KC KL )
  have G_are_names : Fn l.prog w K mg base "are_names" 2 R_are_names := fn_wrap (PySem.W.mg_of X G a3) b3 F3.kp (ok_are_names F3 B KC KL G_is_name)
  have G_read_integers : Fn l.prog w K mg base "read_integers" 2 R_read_integers := fn_wrap (PySem.W.mg_of X G a7) b7 F7.kp (ok_read_integers F7 B KC KL G_is_integer)
  have G_format_circuit : Fn l.prog w K mg base "format_circuit" 2 R_format_circuit := fn_wrap (PySem.W.mg_of X G a9) b9 F9.kp (ok_format_circuit F9 B KC KL G_device_line)
  have G_law_is_number : Fn l.prog w K mg base "_law_is_number" 2 R_law_is_number := fn_wrap (PySem.W.mg_of X G a18) b18 F18.kp (ok_law_is_number F18 B KC KL G_law_is_int)
  have G_law_qcircuit : Fn l.prog w K mg base "_law_qcircuit" 2 R_law_qcircuit := fn_wrap (PySem.W.mg_of X G a21) b21 F21.kp (ok_law_qcircuit F21 B KC KL G_law_draws G_law_name)
  have G_Circuit_init : FnI l.prog w K mg base "Circuit" 3 R_Circuit_init := ⟨⟨C_Circuit, f4, _, _, aC_Circuit, PySem.W.mg_of X G aC_Circuit, ⟨mk_Circuit, a4, i4, kc_Circuit⟩, ok_Circuit_init F4 B KC KL G_are_names G_is_device G_is_net_count, b4⟩⟩
  have G_net_count_in : Fn l.prog w K mg base "net_count_in" 3 R_net_count_in := fn_wrap (PySem.W.mg_of X G a10) b10 F10.kp (ok_net_count_in F10 B KC KL G_is_net_count G_read_integers)
  have G_name_in_q : Fn l.prog w K mg base "name_in" 3 R_name_in_q := fn_wrap (PySem.W.mg_of X G a11) b11 F11.kp (ok_name_in_q F11 B KC KL G_is_name G_read_integers)
  have G_name_in_v : Fn l.prog w K mg base "name_in" 4 R_name_in_v := fn_wrap (PySem.W.mg_of X G a11) b11 F11.kp (ok_name_in_v F11 B KC KL G_read_integers)
  have G_device_in_v : Fn l.prog w K mg base "device_in" 3 R_device_in_v := fn_wrap (PySem.W.mg_of X G a12) b12 F12.kp (ok_device_in_v F12 B KC KL G_is_device G_read_integers)
  have G_device_in_q : Fn l.prog w K mg base "device_in" 4 R_device_in_q := fn_wrap (PySem.W.mg_of X G a12) b12 F12.kp (ok_device_in_q F12 B KC KL G_read_integers)
  have G_law_like_int : Fn l.prog w K mg base "_law_like" 1 R_law_like_int := fn_wrap (PySem.W.mg_of X G a20) b20 F20.kp (ok_law_like_int F20 B KC KL )
  have G_law_like_str : Fn l.prog w K mg base "_law_like" 2 R_law_like_str := fn_wrap (PySem.W.mg_of X G a20) b20 F20.kp (ok_law_like_str F20 B KC KL )
  have G_law_like_t1 : Fn l.prog w K mg base "_law_like" 3 R_law_like_t1 := fn_wrap (PySem.W.mg_of X G a20) b20 F20.kp (ok_law_like_t1 F20 B KC KL G_law_like_int G_law_like_str)
  have G_law_like_t2 : Fn l.prog w K mg base "_law_like" 4 R_law_like_t2 := fn_wrap (PySem.W.mg_of X G a20) b20 F20.kp (ok_law_like_t2 F20 B KC KL G_law_like_t1)
  have G_parse_circuit : Fn l.prog w K mg base "parse_circuit" 5 R_parse_circuit := fn_wrap (PySem.W.mg_of X G a13) b13 F13.kp (ok_parse_circuit F13 B KC KL G_Circuit_init G_device_in_q G_device_in_v G_name_in_q G_name_in_v G_net_count_in)
  have G_law_qis_circuit : Fn l.prog w K mg base "_law_qis_circuit" 5 R_law_qis_circuit := fn_wrap (PySem.W.mg_of X G a22) b22 F22.kp (ok_law_qis_circuit F22 B KC KL G_law_is_number G_law_like_t2 G_law_like_t2)
  exact ok_law F24 B KC KL G_Circuit_eq G_Circuit_init G_law_cell G_law_is_text G_law_qcircuit G_law_qcircuit_lines G_law_qis_circuit G_format_circuit G_parse_circuit
end DL
open PySem PySem.W PyProof.Rows
local macro_rules | `(tactic| walk_at "kd") => `(tactic| first | exact DL.kd_int | exact DL.kd_bl | exact DL.kd_str | (refine' DL.kd_tup ?l ?c ?e ?z ?r; (case l => k_is); (case c => rfl); (case e => rfl); (case z => decide); (case r => walk_at "kds")))
local macro_rules | `(tactic| walk_at "kds") => `(tactic| first | exact DL.kds_nil | (refine' DL.kds_cons ?a ?b; (case a => walk_at "kd"); (case b => walk_at "kds")))
set_option maxRecDepth 100000 in
set_option maxHeartbeats 0 in
theorem PySem.Challenge.cw_reticle_k69_written_circuits_holds : PySem.Challenge.rw_reticle_k69_written_circuits.Holds := by
  w_on; o_law; k_head; (case hw => w_witness2)
  k_fill
  refine DL.walk_law (l := PySem.Challenge.rw_reticle_k69_written_circuits) (k := 6) rfl ⟨rfl, by decide, by decide⟩ rfl (fun w h Y => PySem.W.kIn_of Y) ?F
  case F =>
    intro w mg fa h KX G hmg
    refine' DL.all_mk KX G hmg ?aC_Circuit ?pg_Circuit ?hd_Circuit ?po_Circuit ?sa_Circuit ?ha_Circuit ?hn_Circuit ?htk_Circuit ?hm_Circuit ?kc_Circuit ?mk_Circuit ?na0_Circuit ?na1_Circuit ?na2_Circuit ?na3_Circuit ?a0 ?l0 ?c0 ?k0 ?a1 ?l1 ?c1 ?k1 ?a2 ?l2 ?c2 ?k2 ?a3 ?l3 ?c3 ?k3 ?a4 ?i4 ?l4 ?c4 ?k4 ?a5 ?i5 ?l5 ?c5 ?k5 ?a6 ?l6 ?c6 ?k6 ?a7 ?l7 ?c7 ?k7 ?a8 ?l8 ?c8 ?k8 ?a9 ?l9 ?c9 ?k9 ?a10 ?l10 ?c10 ?k10 ?a11 ?l11 ?c11 ?k11 ?a12 ?l12 ?c12 ?k12 ?a13 ?l13 ?c13 ?k13 ?a14 ?l14 ?c14 ?k14 ?a15 ?l15 ?c15 ?k15 ?a16 ?l16 ?c16 ?k16 ?a17 ?l17 ?c17 ?k17 ?a18 ?l18 ?c18 ?k18 ?a19 ?l19 ?c19 ?k19 ?a20 ?l20 ?c20 ?k20 ?a21 ?l21 ?c21 ?k21 ?a22 ?l22 ?c22 ?k22 ?a23 ?l23 ?c23 ?k23 ?a24 ?l24 ?c24 ?k24 ?z_all ?z_bool ?z_dict ?z_enumerate ?z_int ?z_isinstance ?z_len ?z_list ?z_range ?z_set ?z_sorted ?z_str ?z_tuple ?y_KINDS ?w_KINDS ?y_MOST_CHARACTERS ?w_MOST_CHARACTERS ?y_MOST_DEVICES ?w_MOST_DEVICES ?y_MOST_DIGITS ?w_MOST_DIGITS ?y_MOST_NETS ?w_MOST_NETS
    (case aC_Circuit => k_is); (case pg_Circuit => k_is); (case hd_Circuit => k_is); (case po_Circuit => k_is); (case sa_Circuit => k_is); (case ha_Circuit => k_is); (case hn_Circuit => k_is); (case htk_Circuit => k_is)
    (case hm_Circuit => k_is); (case kc_Circuit => k_is); (case mk_Circuit => k_is); (case na0_Circuit => k_is); (case na1_Circuit => k_is); (case na2_Circuit => k_is); (case na3_Circuit => k_is); (case a0 => k_is)
    (case l0 => k_is); (case c0 => k_is); (case k0 => k_is); (case a1 => k_is); (case l1 => k_is); (case c1 => k_is); (case k1 => k_is); (case a2 => k_is)
    (case l2 => k_is); (case c2 => k_is); (case k2 => k_is); (case a3 => k_is); (case l3 => k_is); (case c3 => k_is); (case k3 => k_is); (case a4 => k_is)
    (case i4 => k_is); (case l4 => k_is); (case c4 => k_is); (case k4 => k_is); (case a5 => k_is); (case i5 => k_is); (case l5 => k_is); (case c5 => k_is)
    (case k5 => k_is); (case a6 => k_is); (case l6 => k_is); (case c6 => k_is); (case k6 => k_is); (case a7 => k_is); (case l7 => k_is); (case c7 => k_is)
    (case k7 => k_is); (case a8 => k_is); (case l8 => k_is); (case c8 => k_is); (case k8 => k_is); (case a9 => k_is); (case l9 => k_is); (case c9 => k_is)
    (case k9 => k_is); (case a10 => k_is); (case l10 => k_is); (case c10 => k_is); (case k10 => k_is); (case a11 => k_is); (case l11 => k_is); (case c11 => k_is)
    (case k11 => k_is); (case a12 => k_is); (case l12 => k_is); (case c12 => k_is); (case k12 => k_is); (case a13 => k_is); (case l13 => k_is); (case c13 => k_is)
    (case k13 => k_is); (case a14 => k_is); (case l14 => k_is); (case c14 => k_is); (case k14 => k_is); (case a15 => k_is); (case l15 => k_is); (case c15 => k_is)
    (case k15 => k_is); (case a16 => k_is); (case l16 => k_is); (case c16 => k_is); (case k16 => k_is); (case a17 => k_is); (case l17 => k_is); (case c17 => k_is)
    (case k17 => k_is); (case a18 => k_is); (case l18 => k_is); (case c18 => k_is); (case k18 => k_is); (case a19 => k_is); (case l19 => k_is); (case c19 => k_is)
    (case k19 => k_is); (case a20 => k_is); (case l20 => k_is); (case c20 => k_is); (case k20 => k_is); (case a21 => k_is); (case l21 => k_is); (case c21 => k_is)
    (case k21 => k_is); (case a22 => k_is); (case l22 => k_is); (case c22 => k_is); (case k22 => k_is); (case a23 => k_is); (case l23 => k_is); (case c23 => k_is)
    (case k23 => k_is); (case a24 => k_is); (case l24 => k_is); (case c24 => k_is); (case k24 => k_is); (case z_all => k_is); (case z_bool => k_is); (case z_dict => k_is)
    (case z_enumerate => k_is); (case z_int => k_is); (case z_isinstance => k_is); (case z_len => k_is); (case z_list => k_is); (case z_range => k_is); (case z_set => k_is); (case z_sorted => k_is)
    (case z_str => k_is); (case z_tuple => k_is); (case y_KINDS => k_is); (case w_KINDS => walk_at "kd"); (case y_MOST_CHARACTERS => k_is); (case w_MOST_CHARACTERS => walk_at "kd"); (case y_MOST_DEVICES => k_is); (case w_MOST_DEVICES => walk_at "kd")
    (case y_MOST_DIGITS => k_is); (case w_MOST_DIGITS => walk_at "kd"); (case y_MOST_NETS => k_is); (case w_MOST_NETS => walk_at "kd")
