import PyProof.Rows.All
import Wide.All
import OpenK.AllK
import Wide.FinOn
import HandS.ForMost
import HandS.Walk
import HandS.IsInst
import HandS.Style
import HandS.Defaults
import HandS.NoneIn
import PySem.Challenge.RW_reticle_k31_faults_of_written_libraries
import HandS.SetKeys
import HandS.SortRule
import HandS.SortInts
import HandS.More
import KE.KDictCopyH
import KE.KDictSum
import HandS.SetFor
import HandS.Flow
import HandS.SortKw
import HandS.ExcValue
import HandS.Deep
import KE.SortKeyHeap
import HandS.Strs
import KE.KDictList
import PyProof.Rows.TupTab
import HandS.TupLen
import HandS.Codes
import KE.SortData
import KE.KDictPairs
import HandS.TupAny
import HandS.DictComp
import PyProof.AutoSeq1
import HandS.Conv
import HandS.SlotsOwn
import HandS.WordsExc
import HandS.ExcIs
import HandS.Small
import HandS.FStr
import HandS.DictTup
import KE.DatumOrd
import HandS.Text
import HandS.Property
import PyProof.Rows.Range3
import KE.GoesEnumKw
import KE.GoesEnum
import HandS.Star
import PyProof.EnumMake
import PyProof.Draws
import KE.GoesMore
import HandS.WordsDict
import HandS.RaiseMore
import HandS.CallLocal
import KE.KIndexOf
import HandS.Call
import KE.KExcSuper
import HandS.NestedK
import HandS.ExcInit
import HandS.ExcField
import HandS.ClsMeth
import HandS.ExcCtx
import HandS.HotCalls
import HandS.ExcInitHot
set_option Elab.async false
set_option linter.all false
set_option maxRecDepth 100000
set_option maxHeartbeats 4000000
namespace DL
open PySem PySem.Spec L2
inductive D where
  | non | bl (b : Bool) | int (i : Int) | str (x : Str) | ty (n : String)
  | lst (xs : List D) | tup (xs : List D)
  | dk (ks : List Key) (ds : List D) | dt (ks : List (List Key)) (ds : List D)
  | obj (cn : Str) (ns : List Str) (ds : List D)
  /-- what stands at a place -/
  | ad (a : Addr)
  /-- a tuple that is known to have no dict -/
  | ptp (xs : List D)
  /-- a tuple that is known to be no constant -/
  | etp (xs : List D)
  /-- an exception of an own class: where it is, where its dict is -/
  | exc (a x : Addr) (ns : List Str) (ds : List D)
mutual
def DR (K : PySem.W.Frag) (H : Hp) : D → V → Prop
  | .non, v => v = .non
  | .bl b, v => v = .bl b
  | .int i, v => v = .int i
  | .str x, v => v = .str x
  | .ty n, v => v = .ty n
  | .lst ds, v => ∃ a vs, v = .ref a ∧ SqL K H a vs ∧ DRs K H ds vs
  | .tup ds, v => ∃ a vs, v = .ref a ∧ SqT K H a vs ∧ DRs K H ds vs
  | .dk ks ds, v => ∃ a vs, v = .ref a ∧ Rd H a (.dK (ks.zip vs)) ∧ ks.length = vs.length ∧ DRs K H ds vs
  | .dt ks ds, v => ∃ a vs, v = .ref a ∧ Rd H a (.dT (ks.zip vs)) ∧ ks.length = vs.length ∧ DRs K H ds vs
  | .obj cn ns ds, v => ∃ a C dx vs, v = .ref a ∧ PySem.W.nsIn K mainGlobals cn = some (some (.ref C)) ∧ H a = some (.ins C dx (ns.zip vs)) ∧ ns.length = vs.length ∧ DRs K H ds vs
  | .ad a, v => v = .ref a
  | .ptp ds, v => ∃ a o vs, v = .ref a ∧ H a = some (.frz o (.tup vs)) ∧ o.dict = none ∧ DRs K H ds vs
  | .etp ds, v => ∃ a vs, v = .ref a ∧ H a = some (.tup vs) ∧ DRs K H ds vs
  | .exc a x ns ds, v => v = .ref a ∧ ∃ vs, H x = some (.xd (ns.zip vs)) ∧ ns.length = vs.length ∧ DRs K H ds vs
def DRs (K : PySem.W.Frag) (H : Hp) : List D → List V → Prop
  | [], vs => vs = []
  | d :: ds, vs => ∃ v r, vs = v :: r ∧ DR K H d v ∧ DRs K H ds r
end
theorem Same.seqT {K : PySem.W.Frag} {H H' : Hp} {a : Addr} {xs : List V} (e : Same H H') (h : SqT K H a xs) : SqT K H' a xs := by
  rcases h with (h | ⟨o, h⟩) | h
  · exact .inl (.inl (e _ _ h))
  · exact .inl (.inr ⟨o, e _ _ h⟩)
  · exact .inr h
theorem Same.rd {H H' : Hp} {a : Addr} {u : HO} (e : Same H H') (h : Rd H a u) : Rd H' a u := by
  rcases h with h | ⟨o, h⟩
  · exact .inl (e _ _ h)
  · exact .inr ⟨o, e _ _ h⟩
mutual
theorem DR.mono {K : PySem.W.Frag} {H H' : Hp} (e : Same H H') : ∀ (d : D) (v : V), DR K H d v → DR K H' d v
  | .non, v, h => h
  | .bl _, v, h => h
  | .int _, v, h => h
  | .str _, v, h => h
  | .ty _, v, h => h
  | .lst ds, v, h => by
    obtain ⟨a, vs, h1, h2, h3⟩ := h
    exact ⟨a, vs, h1, e.seq h2, DRs.mono e ds vs h3⟩
  | .tup ds, v, h => by
    obtain ⟨a, vs, h1, h2, h3⟩ := h
    exact ⟨a, vs, h1, Same.seqT e h2, DRs.mono e ds vs h3⟩
  | .dk ks ds, v, h => by
    obtain ⟨a, vs, h1, h2, h4, h3⟩ := h
    exact ⟨a, vs, h1, Same.rd e h2, h4, DRs.mono e ds vs h3⟩
  | .dt ks ds, v, h => by
    obtain ⟨a, vs, h1, h2, h4, h3⟩ := h
    exact ⟨a, vs, h1, Same.rd e h2, h4, DRs.mono e ds vs h3⟩
  | .obj cn ns ds, v, h => by
    obtain ⟨a, C, dx, vs, h1, hn, h2, h4, h3⟩ := h
    exact ⟨a, C, dx, vs, h1, hn, e _ _ h2, h4, DRs.mono e ds vs h3⟩
  | .ad _, v, h => h
  | .ptp ds, v, h => by
    obtain ⟨a, o, vs, h1, h2, h4, h3⟩ := h
    exact ⟨a, o, vs, h1, e _ _ h2, h4, DRs.mono e ds vs h3⟩
  | .etp ds, v, h => by
    obtain ⟨a, vs, h1, h2, h3⟩ := h
    exact ⟨a, vs, h1, e _ _ h2, DRs.mono e ds vs h3⟩
  | .exc a x ns ds, v, h => by
    obtain ⟨h1, vs, h2, h4, h3⟩ := h
    exact ⟨h1, vs, e _ _ h2, h4, DRs.mono e ds vs h3⟩
theorem DRs.mono {K : PySem.W.Frag} {H H' : Hp} (e : Same H H') : ∀ (ds : List D) (vs : List V), DRs K H ds vs → DRs K H' ds vs
  | [], vs, h => h
  | d :: ds, vs, h => by
    obtain ⟨v, r, h1, h2, h3⟩ := h
    exact ⟨v, r, h1, DR.mono e d v h2, DRs.mono e ds r h3⟩
end
theorem DRs.length {K : PySem.W.Frag} {H : Hp} : ∀ {ds : List D} {vs : List V}, DRs K H ds vs → ds.length = vs.length
  | [], vs, h => by cases (show vs = [] from h); rfl
  | d :: ds, vs, h => by
    obtain ⟨v, r, rfl, _, h3⟩ := h
    simp [DRs.length h3]
theorem DRs.get {K : PySem.W.Frag} {H : Hp} : ∀ {ds : List D} {vs : List V} {i : Nat} {d : D}, DRs K H ds vs → ds[i]? = some d → ∃ v, vs[i]? = some v ∧ DR K H d v
  | [], vs, i, d, h, e => by simp at e
  | d' :: ds, vs, 0, d, h, e => by
    obtain ⟨v, r, rfl, h2, h3⟩ := h
    simp at e
    subst e
    exact ⟨v, by simp, h2⟩
  | d' :: ds, vs, i + 1, d, h, e => by
    obtain ⟨v, r, rfl, h2, h3⟩ := h
    obtain ⟨w, h4, h5⟩ := DRs.get (i := i) (d := d) h3 (by simpa using e)
    exact ⟨w, by simpa using h4, h5⟩
theorem DRs.app {K : PySem.W.Frag} {H : Hp} : ∀ {ds es : List D} {vs ws : List V}, DRs K H ds vs → DRs K H es ws → DRs K H (ds ++ es) (vs ++ ws)
  | [], es, vs, ws, h, g => by cases (show vs = [] from h); exact g
  | d :: ds, es, vs, ws, h, g => by
    obtain ⟨v, r, rfl, h2, h3⟩ := h
    exact ⟨v, r ++ ws, rfl, h2, DRs.app h3 g⟩
theorem DRs.one {K : PySem.W.Frag} {H : Hp} {d : D} {v : V} (h : DR K H d v) : DRs K H [d] [v] := ⟨v, [], rfl, h, rfl⟩
theorem DRs.set {K : PySem.W.Frag} {H : Hp} {d : D} {v : V} (g : DR K H d v) : ∀ {ds : List D} {vs : List V} (i : Nat), DRs K H ds vs → DRs K H (ds.set i d) (vs.set i v)
  | [], vs, i, h => by cases (show vs = [] from h); exact rfl
  | d' :: ds, vs, 0, h => by
    obtain ⟨v', r, rfl, h2, h3⟩ := h
    exact ⟨v, r, rfl, g, h3⟩
  | d' :: ds, vs, i + 1, h => by
    obtain ⟨v', r, rfl, h2, h3⟩ := h
    exact ⟨v', r.set i v, rfl, h2, DRs.set g i h3⟩
theorem DRs.take {K : PySem.W.Frag} {H : Hp} : ∀ {ds : List D} {vs : List V} (n : Nat), DRs K H ds vs → DRs K H (ds.take n) (vs.take n)
  | ds, vs, 0, h => by simp [DRs]
  | [], vs, n + 1, h => by cases (show vs = [] from h); exact rfl
  | d :: ds, vs, n + 1, h => by
    obtain ⟨v, r, rfl, h2, h3⟩ := h
    exact ⟨v, r.take n, rfl, h2, DRs.take n h3⟩
theorem DRs.drop {K : PySem.W.Frag} {H : Hp} : ∀ {ds : List D} {vs : List V} (n : Nat), DRs K H ds vs → DRs K H (ds.drop n) (vs.drop n)
  | ds, vs, 0, h => by simpa using h
  | [], vs, n + 1, h => by cases (show vs = [] from h); exact rfl
  | d :: ds, vs, n + 1, h => by
    obtain ⟨v, r, rfl, h2, h3⟩ := h
    exact DRs.drop (ds := ds) (vs := r) n h3
theorem DRs.ints {K : PySem.W.Frag} {H : Hp} : ∀ {ns : List Int} {vs : List V}, DRs K H (ns.map D.int) vs → vs = ns.map V.int
  | [], vs, h => h
  | n :: ns, vs, h => by
    obtain ⟨v, r, rfl, h2, h3⟩ := h
    cases (show v = .int n from h2)
    rw [DRs.ints h3]; rfl
theorem DRs.ofInts {K : PySem.W.Frag} {H : Hp} : ∀ (ns : List Int), DRs K H (ns.map D.int) (ns.map V.int)
  | [] => rfl
  | n :: ns => ⟨.int n, ns.map V.int, rfl, rfl, DRs.ofInts ns⟩
theorem DRs.bls {K : PySem.W.Frag} {H : Hp} : ∀ {ns : List Bool} {vs : List V}, DRs K H (ns.map D.bl) vs → vs = ns.map V.bl
  | [], vs, h => h
  | n :: ns, vs, h => by
    obtain ⟨v, r, rfl, h2, h3⟩ := h
    cases (show v = .bl n from h2)
    rw [DRs.bls h3]; rfl
theorem DRs.strs {K : PySem.W.Frag} {H : Hp} : ∀ {ns : List Str} {vs : List V}, DRs K H (ns.map D.str) vs → vs = ns.map V.str
  | [], vs, h => h
  | n :: ns, vs, h => by
    obtain ⟨v, r, rfl, h2, h3⟩ := h
    cases (show v = .str n from h2)
    rw [DRs.strs h3]; rfl
/-- what may be nobody else's -/
def NT : HO → Prop
  | .tup _ => False
  | _ => True
structure JH (B0 B H0 H : Hp) : Prop where
  s0 : Same B0 H0
  sh : Same H0 H
  sB : Same B H
  fr : ∀ a o, B a = some o → NT o → B0 a = none → H0 a = none
theorem JH.refl {H0 H : Hp} (h : Same H0 H) : JH H0 H H0 H := ⟨Same.refl _, h, Same.refl _, fun _ _ _ _ h => h⟩
theorem JH.trans {B0 B H0 H G0 G : Hp} (a : JH B0 B H0 H) (b : JH H0 H G0 G) : JH B0 B G0 G :=
  ⟨a.s0.trans b.s0, b.sh, a.sB.trans b.sB, fun x o h n h' => b.fr x o (a.sB x o h) n (a.fr x o h n h')⟩
/-- a new thing that is shared at once -/
theorem JH.new {H0 H : Hp} {p : Addr} {o : HO} (h : Same H0 H) (n : H p = none) : JH H0 H (upd H0 p o) (upd H p o) := by
  have n0 : H0 p = none := h.free n
  refine ⟨fun b u e => ?_, fun b u e => ?_, fun b u e => ?_, fun a u e _ e' => ?_⟩
  · rw [upd_ne (ne_of_none e n0)]; exact e
  · by_cases hb : b = p
    · subst hb; rw [upd_same] at e ⊢; exact e
    · rw [upd_ne hb] at e ⊢; exact h b u e
  · rw [upd_ne (ne_of_none e n)]; exact e
  · rw [upd_ne (ne_of_none e n)]; exact e'
/-- a new thing that is nobody else's -/
theorem JH.own {H0 H : Hp} {p : Addr} {o : HO} (h : Same H0 H) (n : H p = none) : JH H0 H H0 (upd H p o) := by
  have n0 : H0 p = none := h.free n
  refine ⟨Same.refl _, fun b u e => ?_, fun b u e => ?_, fun a u e _ e' => e'⟩
  · rw [upd_ne (ne_of_none e n0)]; exact h b u e
  · rw [upd_ne (ne_of_none e n)]; exact e
/-- what is nobody else's: a list, a dict -/
inductive OC where
  | lst (ds : List D) | dk (ks : List Key) (ds : List D) | dt (ks : List (List Key)) (ds : List D)
  /-- .. while a loop walks it -/
  | fk (ks : List Key) (ds : List D) | ft (ks : List (List Key)) (ds : List D)
  /-- an instance of a class of the text -/
  | ins (cn : Str) (ns : List Str) (ds : List D)
def OCR (K : PySem.W.Frag) (H0 : Hp) : OC → HO → Prop
  | .lst ds, o => ∃ vs, o = .lst vs ∧ DRs K H0 ds vs
  | .dk ks ds, o => ∃ vs, o = .dK (ks.zip vs) ∧ ks.length = vs.length ∧ DRs K H0 ds vs
  | .dt ks ds, o => ∃ vs, o = .dT (ks.zip vs) ∧ ks.length = vs.length ∧ DRs K H0 ds vs
  | .fk ks ds, o => ∃ vs od, o = .frz od (.dK (ks.zip vs)) ∧ ks.length = vs.length ∧ DRs K H0 ds vs
  | .ft ks ds, o => ∃ vs od, o = .frz od (.dT (ks.zip vs)) ∧ ks.length = vs.length ∧ DRs K H0 ds vs
  | .ins cn ns ds, o => ∃ vs C dx, o = .ins C dx (ns.zip vs) ∧ PySem.W.nsIn K mainGlobals cn = some (some (.ref C)) ∧ ns.length = vs.length ∧ DRs K H0 ds vs
theorem OCR.nt {K : PySem.W.Frag} {H0 : Hp} : ∀ {c : OC} {o : HO}, OCR K H0 c o → NT o
  | .lst _, _, ⟨vs, h1, h2⟩ => by subst h1; trivial
  | .dk _ _, _, ⟨vs, h1, h3, h2⟩ => by subst h1; trivial
  | .dt _ _, _, ⟨vs, h1, h3, h2⟩ => by subst h1; trivial
  | .fk _ _, _, ⟨vs, od, h1, h3, h2⟩ => by subst h1; trivial
  | .ft _ _, _, ⟨vs, od, h1, h3, h2⟩ => by subst h1; trivial
  | .ins _ _ _, _, ⟨vs, C, dx, h1, hn, h3, h2⟩ => by subst h1; trivial
theorem OCR.mono {K : PySem.W.Frag} {H0 H0' : Hp} (e : Same H0 H0') : ∀ {c : OC} {o : HO}, OCR K H0 c o → OCR K H0' c o
  | .lst _, _, ⟨vs, h1, h2⟩ => ⟨vs, h1, DRs.mono e _ _ h2⟩
  | .dk _ _, _, ⟨vs, h1, h3, h2⟩ => ⟨vs, h1, h3, DRs.mono e _ _ h2⟩
  | .dt _ _, _, ⟨vs, h1, h3, h2⟩ => ⟨vs, h1, h3, DRs.mono e _ _ h2⟩
  | .fk _ _, _, ⟨vs, od, h1, h3, h2⟩ => ⟨vs, od, h1, h3, DRs.mono e _ _ h2⟩
  | .ft _ _, _, ⟨vs, od, h1, h3, h2⟩ => ⟨vs, od, h1, h3, DRs.mono e _ _ h2⟩
  | .ins _ _ _, _, ⟨vs, C, dx, h1, hn, h3, h2⟩ => ⟨vs, C, dx, h1, hn, h3, DRs.mono e _ _ h2⟩
def OC.d : OC → D
  | .lst ds => .lst ds
  | .dk ks ds => .dk ks ds
  | .dt ks ds => .dt ks ds
  | .fk ks ds => .dk ks ds
  | .ft ks ds => .dt ks ds
  | .ins cn ns ds => .obj cn ns ds
theorem OCR.dr {K : PySem.W.Frag} {H0 : Hp} {c : OC} {a : Addr} {o : HO} (n : H0 a = none) (h : OCR K H0 c o) : DR K (upd H0 a o) c.d (.ref a) := by
  have s0 : Same H0 (upd H0 a o) := fun b u e => by
    rw [upd_ne (fun z => by subst z; rw [n] at e; cases e)]; exact e
  cases c with
  | lst ds => obtain ⟨vs, rfl, r⟩ := h; exact ⟨a, vs, rfl, SqL.of upd_same, DRs.mono s0 _ _ r⟩
  | dk ks ds => obtain ⟨vs, rfl, l, r⟩ := h; exact ⟨a, vs, rfl, .inl upd_same, l, DRs.mono s0 _ _ r⟩
  | dt ks ds => obtain ⟨vs, rfl, l, r⟩ := h; exact ⟨a, vs, rfl, .inl upd_same, l, DRs.mono s0 _ _ r⟩
  | fk ks ds => obtain ⟨vs, od, rfl, l, r⟩ := h; exact ⟨a, vs, rfl, .inr ⟨od, upd_same⟩, l, DRs.mono s0 _ _ r⟩
  | ft ks ds => obtain ⟨vs, od, rfl, l, r⟩ := h; exact ⟨a, vs, rfl, .inr ⟨od, upd_same⟩, l, DRs.mono s0 _ _ r⟩
  | ins cn ns ds => obtain ⟨vs, C, dx, rfl, hn, l, r⟩ := h; exact ⟨a, C, dx, vs, rfl, hn, upd_same, l, DRs.mono s0 _ _ r⟩
inductive Sl where
  | no | sh (d : D) | ow (c : OC)
  /-- what is at d, and things of its own at places that are told -/
  | ox (cs : List (Addr × OC)) (d : D)
/-- a thing of its own stands at a place -/
structure CellR (K : PySem.W.Frag) (B H0 H : Hp) (a : Addr) (c : OC) : Prop where
  ex : ∃ o, H a = some o ∧ H0 a = none ∧ B a = none ∧ OCR K H0 c o
def SlR (K : PySem.W.Frag) (B H0 H : Hp) : Sl → Option V → Prop
  | .no, _ => True
  | .sh d, ov => ∃ v, ov = some v ∧ DR K H0 d v
  | .ow c, ov => ∃ a o, ov = some (.ref a) ∧ H a = some o ∧ H0 a = none ∧ B a = none ∧ OCR K H0 c o
  | .ox cs d, ov => (∃ v, ov = some v ∧ DR K H0 d v) ∧ (∀ p ∈ cs, CellR K B H0 H p.1 p.2) ∧ (cs.map (·.1)).Nodup
/-- the places of what a slot owns -/
def Owns : Sl → Option V → Addr → Prop
  | .ow _, ov, a => ov = some (.ref a)
  | .ox cs _, _, a => a ∈ cs.map (·.1)
  | _, _, _ => False
abbrev En := List Sl
structure J (K : PySem.W.Frag) (B0 B : Hp) (σ : St) (H0 H : Hp) (ρ : En) : Prop where
  hp : JH B0 B H0 H
  len : σ.length = ρ.length
  sl : ∀ (i : Nat) s ov, ρ[i]? = some s → σ[i]? = some ov → SlR K B H0 H s ov
  dis : ∀ (i j : Nat) s s' ov ov' a, ρ[i]? = some s → ρ[j]? = some s' → σ[i]? = some ov → σ[j]? = some ov' → Owns s ov a → Owns s' ov' a → i = j
section
variable {K : PySem.W.Frag} {B0 B H0 H H0' H' : Hp} {σ σ' : St} {ρ ρ' : En}
theorem J.get (j : J K B0 B σ H0 H ρ) {i : Nat} {s : Sl} (h : ρ[i]? = some s) : ∃ ov, σ[i]? = some ov ∧ SlR K B H0 H s ov := by
  have hi : i < σ.length := by
    have := (List.getElem?_eq_some_iff.mp h).1
    rw [j.len]; exact this
  exact ⟨σ[i], by simp [hi], j.sl i s σ[i] h (by simp [hi])⟩
theorem CellR.grow (g : JH H0 H H0' H') {a : Addr} {c : OC} (h : CellR K B H0 H a c) : CellR K B H0' H' a c := by
  obtain ⟨o, h2, h3, h4, h5⟩ := h
  exact ⟨o, g.sB _ _ h2, g.fr _ _ h2 h5.nt h3, h4, h5.mono g.s0⟩
theorem SlR.grow (g : JH H0 H H0' H') {s : Sl} {ov : Option V} (h : SlR K B H0 H s ov) : SlR K B H0' H' s ov := by
  cases s with
  | no => trivial
  | sh d => obtain ⟨v, h1, h2⟩ := h; exact ⟨v, h1, DR.mono g.s0 _ _ h2⟩
  | ow c => obtain ⟨a, o, h1, h2, h3, h4, h5⟩ := h; exact ⟨a, o, h1, g.sB _ _ h2, g.fr _ _ h2 h5.nt h3, h4, h5.mono g.s0⟩
  | ox cs d => obtain ⟨⟨v, h1, h2⟩, h3, h4⟩ := h; exact ⟨⟨v, h1, DR.mono g.s0 _ _ h2⟩, fun p hp => (h3 p hp).grow g, h4⟩
theorem J.grow (j : J K B0 B σ H0 H ρ) (g : JH H0 H H0' H') : J K B0 B σ H0' H' ρ :=
  ⟨j.hp.trans g, j.len, fun i s ov h1 h2 => (j.sl i s ov h1 h2).grow g, j.dis⟩
theorem J.same (j : J K B0 B σ H0 H ρ) : Same H0 H := j.hp.sh
theorem set_get {α : Type} {l : List α} {i j : Nat} {x y : α} (h : (l.set i x)[j]? = some y) : (j = i ∧ y = x ∧ i < l.length) ∨ (j ≠ i ∧ l[j]? = some y) := by
  by_cases e : i = j
  · subst e
    by_cases hl : i < l.length
    · rw [List.getElem?_set_self hl] at h
      exact .inl ⟨rfl, (Option.some.inj h).symm, hl⟩
    · rw [List.getElem?_eq_none (by simpa using hl)] at h; cases h
  · rw [List.getElem?_set_ne e] at h
    exact .inr ⟨fun z => e z.symm, h⟩
/-- what a slot owns is there, not shared, and new since the base -/
theorem J.own (j : J K B0 B σ H0 H ρ) {i : Nat} {s : Sl} {ov : Option V} {a : Addr} (h : ρ[i]? = some s) (hσ : σ[i]? = some ov) (w : Owns s ov a) : ∃ o, H a = some o ∧ H0 a = none ∧ B a = none := by
  have r := j.sl i s ov h hσ
  cases s with
  | no => cases w
  | sh d => cases w
  | ow c =>
    obtain ⟨b, o, e, h2, h3, h4, _⟩ := r
    cases e.symm.trans (show ov = _ from w)
    exact ⟨o, h2, h3, h4⟩
  | ox cs d =>
    obtain ⟨p, hp, rfl⟩ := List.mem_map.mp (show a ∈ cs.map (·.1) from w)
    obtain ⟨o, h2, h3, h4, _⟩ := (r.2.1 p hp).ex
    exact ⟨o, h2, h3, h4⟩
/-- a slot is changed: the heap stays; what it owns then it owned before -/
theorem J.setTo (j : J K B0 B σ H0 H ρ) {i : Nat} {s : Sl} {ov : Option V} (r : SlR K B H0 H s ov) (n : ∀ a, Owns s ov a → ∀ k s' ov', k ≠ i → ρ[k]? = some s' → σ[k]? = some ov' → ¬ Owns s' ov' a) : J K B0 B (σ.set i ov) H0 H (ρ.set i s) := by
  refine ⟨j.hp, by simp [j.len], fun k s1 ov1 h1 h2 => ?_, fun k l s1 s2 o1 o2 a h1 h2 h3 h4 w1 w2 => ?_⟩
  · rcases set_get h1 with ⟨rfl, rfl, _⟩ | ⟨ne, h1⟩
    · rcases set_get h2 with ⟨_, rfl, _⟩ | ⟨ne, _⟩
      · exact r
      · exact absurd rfl ne
    · rcases set_get h2 with ⟨e, _, _⟩ | ⟨_, h2⟩
      · exact absurd e ne
      · exact j.sl k s1 ov1 h1 h2
  · rcases set_get h1 with ⟨e1, q1, _⟩ | ⟨n1, g1⟩
    · rcases set_get h2 with ⟨e2, _, _⟩ | ⟨n2, g2⟩
      · rw [e1, e2]
      · rcases set_get h3 with ⟨_, q3, _⟩ | ⟨n3, _⟩
        · rw [q1, q3] at w1
          rw [List.getElem?_set_ne (Ne.symm n2)] at h4
          exact absurd w2 (n a w1 l s2 o2 n2 g2 h4)
        · exact absurd e1 n3
    · rcases set_get h2 with ⟨e2, q2, _⟩ | ⟨n2, g2⟩
      · rcases set_get h4 with ⟨_, q4, _⟩ | ⟨n4, _⟩
        · rw [q2, q4] at w2
          rw [List.getElem?_set_ne (Ne.symm n1)] at h3
          exact absurd w1 (n a w2 k s1 o1 n1 g1 h3)
        · exact absurd e2 n4
      · rw [List.getElem?_set_ne (Ne.symm n1)] at h3
        rw [List.getElem?_set_ne (Ne.symm n2)] at h4
        exact j.dis k l s1 s2 o1 o2 a g1 g2 h3 h4 w1 w2
/-- .. and its value too stays -/
theorem J.setSl (j : J K B0 B σ H0 H ρ) {i : Nat} {s : Sl} {ov : Option V} (hσ : σ[i]? = some ov) (r : SlR K B H0 H s ov) (n : ∀ a, Owns s ov a → ∀ k s' ov', k ≠ i → ρ[k]? = some s' → σ[k]? = some ov' → ¬ Owns s' ov' a) : J K B0 B σ H0 H (ρ.set i s) := by
  have q := j.setTo (i := i) r n
  have e : σ.set i ov = σ := by
    refine List.ext_getElem? fun k => ?_
    by_cases hk : i = k
    · subst hk
      rw [hσ, List.getElem?_set_self (List.getElem?_eq_some_iff.mp hσ).1]
    · rw [List.getElem?_set_ne hk]
  rwa [e] at q
theorem J.sub (j : J K B0 B σ H0 H ρ) {i : Nat} {s s0 : Sl} {ov : Option V} (h : ρ[i]? = some s0) (hσ : σ[i]? = some ov) (w : ∀ a, Owns s ov a → Owns s0 ov a) : ∀ a, Owns s ov a → ∀ k s' ov', k ≠ i → ρ[k]? = some s' → σ[k]? = some ov' → ¬ Owns s' ov' a :=
  fun a w1 k s' ov' ne h1 h2 w2 => ne (j.dis k i s' s0 ov' ov a h1 h h2 hσ w2 (w a w1))
theorem Owns.none {s : Sl} {ov : Option V} (h : s = .no ∨ ∃ d, s = .sh d) (a : Addr) : ¬ Owns s ov a := by
  rcases h with rfl | ⟨d, rfl⟩ <;> exact fun w => w
/-- a slot gets a value that is shared -/
theorem J.setSh (j : J K B0 B σ H0 H ρ) {i : Nat} {d : D} {v : V} (h : DR K H0 d v) : J K B0 B (σ.set i (some v)) H0 H (ρ.set i (.sh d)) :=
  j.setTo (s := .sh d) ⟨v, rfl, h⟩ fun a w => w.elim
/-- a slot is forgotten -/
theorem J.drop (j : J K B0 B σ H0 H ρ) (i : Nat) : J K B0 B σ H0 H (ρ.set i .no) := by
  by_cases hi : i < σ.length
  · exact j.setSl (s := .no) (ov := σ[i]) (by simp [hi]) True.intro fun a w => w.elim
  · have e : ρ.set i .no = ρ := List.set_eq_of_length_le (by rw [← j.len]; omega)
    rw [e]; exact j
/-- a slot gets a new thing of its own -/
theorem J.setOwn (j : J K B0 B σ H0 H ρ) {i : Nat} {c : OC} {a : Addr} {o : HO} (h : H a = some o) (h0 : H0 a = none) (hB : B a = none) (n : ∀ (k : Nat) s ov, k ≠ i → ρ[k]? = some s → σ[k]? = some ov → ¬ Owns s ov a) (r : OCR K H0 c o) :
    J K B0 B (σ.set i (some (.ref a))) H0 H (ρ.set i (.ow c)) :=
  j.setTo (s := .ow c) ⟨a, o, rfl, h, h0, hB, r⟩ fun b w k s' ov' ne h1 h2 w2 => by
    cases (show some (V.ref a) = some (.ref b) from w)
    exact n k s' ov' ne h1 h2 w2
theorem upd_keep {H : Hp} {a b : Addr} {o u : HO} (h : H b = some u) (n : b ≠ a) : upd H a o b = some u := by rw [upd_ne n]; exact h
theorem CellR.keep {a b : Addr} {c : OC} {o : HO} (h : CellR K B H0 H b c) (n : b ≠ a) : CellR K B H0 (upd H a o) b c := by
  obtain ⟨u, h1, h2⟩ := h
  exact ⟨u, upd_keep h1 n, h2⟩
/-- what slot i owns at a is changed -/
theorem J.writeAt (j : J K B0 B σ H0 H ρ) {i : Nat} {s s' : Sl} {ov : Option V} {a : Addr} {o : HO} (h : ρ[i]? = some s) (hσ : σ[i]? = some ov) (w : Owns s ov a) (ws : ∀ b, Owns s' ov b ↔ Owns s ov b) (r : SlR K B H0 (upd H a o) s' ov) : J K B0 B σ H0 (upd H a o) (ρ.set i s') := by
  obtain ⟨o', h1, h2, h3⟩ := j.own h hσ w
  have ne : ∀ b u, H0 b = some u → b ≠ a := fun b u e z => by subst z; rw [h2] at e; cases e
  have neB : ∀ b u, B b = some u → b ≠ a := fun b u e z => by subst z; rw [h3] at e; cases e
  refine ⟨⟨j.hp.s0, fun b u e => upd_keep (j.hp.sh b u e) (ne b u e), fun b u e => upd_keep (j.hp.sB b u e) (neB b u e), j.hp.fr⟩, by simp [j.len], fun k s1 ov1 g1 g2 => ?_, fun k l s1 s2 o1 o2 b g1 g2 g3 g4 w1 w2 => ?_⟩
  · rcases set_get g1 with ⟨rfl, rfl, _⟩ | ⟨nk, g1⟩
    · rw [hσ] at g2; cases g2
      exact r
    · have q := j.sl k s1 ov1 g1 g2
      have nb : ∀ b, Owns s1 ov1 b → b ≠ a := fun b w1 z => by
        subst z
        exact nk (j.dis k i s1 s ov1 ov b g1 h g2 hσ w1 w)
      cases s1 with
      | no => trivial
      | sh d => exact q
      | ow c2 =>
        obtain ⟨b, ob, f1, f2, f3, f4, f5⟩ := q
        exact ⟨b, ob, f1, upd_keep f2 (nb b f1), f3, f4, f5⟩
      | ox cs d =>
        obtain ⟨q1, q2, q3⟩ := q
        exact ⟨q1, fun p hp => (q2 p hp).keep (nb p.1 (List.mem_map.mpr ⟨p, hp, rfl⟩)), q3⟩
  · have p : ∀ {m : Nat} {s3 : Sl} {o3 : Option V}, (ρ.set i s')[m]? = some s3 → σ[m]? = some o3 → Owns s3 o3 b → ∃ s4, ρ[m]? = some s4 ∧ Owns s4 o3 b := fun {m s3 o3} g gσ w3 => by
      rcases set_get g with ⟨rfl, rfl, _⟩ | ⟨_, g⟩
      · rw [hσ] at gσ; cases gσ
        exact ⟨s, h, (ws b).mp w3⟩
      · exact ⟨s3, g, w3⟩
    obtain ⟨s5, f1, f2⟩ := p g1 g3 w1
    obtain ⟨s6, f3, f4⟩ := p g2 g4 w2
    exact j.dis k l s5 s6 o1 o2 b f1 f3 g3 g4 f2 f4
/-- what a slot owns is changed -/
theorem J.write (j : J K B0 B σ H0 H ρ) {i : Nat} {c c' : OC} {a : Addr} {o : HO} (h : ρ[i]? = some (.ow c)) (hσ : σ[i]? = some (some (.ref a))) (r : OCR K H0 c' o) : J K B0 B σ H0 (upd H a o) (ρ.set i (.ow c')) := by
  obtain ⟨o', h1, h2, h3⟩ := j.own h hσ (show Owns (.ow c) (some (.ref a)) a from rfl)
  exact j.writeAt h hσ rfl (fun b => Iff.rfl) ⟨a, o, rfl, upd_same, h2, h3, r⟩
/-- what a slot owns at a place is given to all -/
theorem J.shareAt (j : J K B0 B σ H0 H ρ) {i : Nat} {s : Sl} {ov : Option V} {a : Addr} {c : OC} {o : HO} (h : ρ[i]? = some s) (hσ : σ[i]? = some ov) (w : Owns s ov a) (h1 : H a = some o) (h4 : OCR K H0 c o) {s' : Sl}
    (ws : ∀ b, Owns s' ov b → Owns s ov b ∧ b ≠ a) (r : DR K (upd H0 a o) c.d (.ref a) → SlR K B (upd H0 a o) H s' ov) : J K B0 B σ (upd H0 a o) H (ρ.set i s') ∧ Same H0 (upd H0 a o) := by
  obtain ⟨o', h1', h2, h3⟩ := j.own h hσ w
  have ne : ∀ b u, H0 b = some u → b ≠ a := fun b u e z => by subst z; rw [h2] at e; cases e
  have s0 : Same H0 (upd H0 a o) := fun b u e => upd_keep e (ne b u e)
  have dr : DR K (upd H0 a o) c.d (.ref a) := by
    exact OCR.dr h2 h4
  refine ⟨⟨⟨j.hp.s0.trans s0, fun b u e => ?_, j.hp.sB, fun b u e nt e' => ?_⟩, by simp [j.len], fun k s1 ov1 g1 g2 => ?_, fun k l s1 s2 o1 o2 b g1 g2 g3 g4 w1 w2 => ?_⟩, s0⟩
  · by_cases hb : b = a
    · subst hb; rw [upd_same] at e; cases e; exact h1
    · rw [upd_ne hb] at e; exact j.hp.sh b u e
  · rw [upd_ne (fun z => by subst z; rw [h3] at e; cases e)]; exact j.hp.fr b u e nt e'
  · rcases set_get g1 with ⟨rfl, rfl, _⟩ | ⟨nk, g1⟩
    · rw [hσ] at g2; cases g2
      exact r dr
    · have q := j.sl k s1 ov1 g1 g2
      have nb : ∀ b, Owns s1 ov1 b → b ≠ a := fun b w1 z => by
        subst z
        exact nk (j.dis k i s1 s ov1 ov b g1 h g2 hσ w1 w)
      cases s1 with
      | no => trivial
      | sh d => obtain ⟨v, f1, f2⟩ := q; exact ⟨v, f1, DR.mono s0 _ _ f2⟩
      | ow c2 =>
        obtain ⟨b, ob, f1, f2, f3, f4, f5⟩ := q
        exact ⟨b, ob, f1, f2, by rw [upd_ne (nb b f1)]; exact f3, f4, f5.mono s0⟩
      | ox cs d =>
        obtain ⟨⟨v, f1, f2⟩, q2, q3⟩ := q
        refine ⟨⟨v, f1, DR.mono s0 _ _ f2⟩, fun p hp => ?_, q3⟩
        obtain ⟨ob, f2, f3, f4, f5⟩ := (q2 p hp).ex
        exact ⟨ob, f2, by rw [upd_ne (nb p.1 (List.mem_map.mpr ⟨p, hp, rfl⟩))]; exact f3, f4, f5.mono s0⟩
  · have p : ∀ {m : Nat} {s3 : Sl} {o3 : Option V}, (ρ.set i s')[m]? = some s3 → σ[m]? = some o3 → Owns s3 o3 b → ∃ s4, ρ[m]? = some s4 ∧ Owns s4 o3 b := fun {m s3 o3} g gσ w3 => by
      rcases set_get g with ⟨rfl, rfl, _⟩ | ⟨_, g⟩
      · rw [hσ] at gσ; cases gσ
        exact ⟨s, h, (ws b w3).1⟩
      · exact ⟨s3, g, w3⟩
    obtain ⟨s5, f1, f2⟩ := p g1 g3 w1
    obtain ⟨s6, f3, f4⟩ := p g2 g4 w2
    exact j.dis k l s5 s6 o1 o2 b f1 f3 g3 g4 f2 f4
/-- what a slot owns is given to all -/
theorem J.share (j : J K B0 B σ H0 H ρ) {i : Nat} {c : OC} (h : ρ[i]? = some (.ow c)) : ∃ H0', J K B0 B σ H0' H (ρ.set i (.sh c.d)) ∧ Same H0 H0' := by
  obtain ⟨ov, e1, a, o, e2, h1, h2, h3, h4⟩ := j.get h
  subst e2
  exact ⟨_, j.shareAt (s' := .sh c.d) h e1 rfl h1 h4 (fun b w => w.elim) fun r => ⟨_, rfl, r⟩⟩
/-- the shared part as it is now for a new base -/
theorem J.rebase (j : J K B0 B σ H0 H ρ) : J K H0 B σ H0 H ρ := ⟨⟨Same.refl _, j.hp.sh, j.hp.sB, fun _ _ _ _ h => h⟩, j.len, j.sl, j.dis⟩
theorem J.unbase (j : J K B0 B σ H0 H ρ) (j' : J K H0 B σ' H0' H' ρ') : J K B0 B σ' H0' H' ρ' :=
  ⟨⟨j.hp.s0.trans j'.hp.s0, j'.hp.sh, j'.hp.sB, fun a o h n h' => j'.hp.fr a o h n (j.hp.fr a o h n h')⟩, j'.len, j'.sl, j'.dis⟩
theorem CellR.new {a : Addr} {c : OC} {o : HO} (h : H a = some o) (h0 : H0 a = none) (hB : B a = none) (r : OCR K H0 c o) : CellR K B H0 H a c := ⟨o, h, h0, hB, r⟩
theorem J.cell (j : J K B0 B σ H0 H ρ) {i : Nat} {cs : List (Addr × OC)} {d : D} (h : ρ[i]? = some (.ox cs d)) {a : Addr} {c : OC} (m : (a, c) ∈ cs) : ∃ o, H a = some o ∧ H0 a = none ∧ B a = none ∧ OCR K H0 c o := by
  obtain ⟨ov, e1, h1, h2, h3⟩ := j.get h
  exact (h2 _ m).ex
/-- one of the places anew -/
def putC (cs : List (Addr × OC)) (a : Addr) (c : OC) : List (Addr × OC) := cs.map fun p => if p.1 = a then (a, c) else p
theorem putC_fst (cs : List (Addr × OC)) (a : Addr) (c : OC) : (putC cs a c).map (·.1) = cs.map (·.1) := by
  unfold putC
  rw [List.map_map]
  refine List.map_congr_left fun p _ => ?_
  show (if p.1 = a then (a, c) else p).1 = p.1
  split
  · rename_i h; exact h.symm
  · rfl
theorem J.put (j : J K B0 B σ H0 H ρ) {i : Nat} {cs : List (Addr × OC)} {d : D} (h : ρ[i]? = some (.ox cs d)) {a : Addr} {c c' : OC} {o : HO} (m : (a, c) ∈ cs) (r : OCR K H0 c' o) : J K B0 B σ H0 (upd H a o) (ρ.set i (.ox (putC cs a c') d)) := by
  obtain ⟨ov, e1, h1, h2, h3⟩ := j.get h
  obtain ⟨o', f1, f2, f3, f4⟩ := j.cell h m
  refine j.writeAt h e1 (List.mem_map.mpr ⟨_, m, rfl⟩) (fun b => by simp only [Owns, putC_fst]) ⟨h1, fun p hp => ?_, by rw [putC_fst]; exact h3⟩
  obtain ⟨q, hq, e⟩ := List.mem_map.mp hp
  by_cases hqa : q.1 = a
  · rw [if_pos hqa] at e
    subst e
    exact .new upd_same f2 f3 r
  · rw [if_neg hqa] at e
    subst e
    exact (h2 q hq).keep hqa
/-- a new thing more -/
theorem J.more (j : J K B0 B σ H0 H ρ) (g : JH H0 H H0' H') {i : Nat} {cs : List (Addr × OC)} {d : D} {a : Addr} {c : OC} {o : HO} (h : ρ[i]? = some (.ox cs d)) (h1 : H' a = some o) (h0 : H0' a = none) (n : H a = none) (r : OCR K H0' c o) : J K B0 B σ H0' H' (ρ.set i (.ox (cs ++ [(a, c)]) d)) := by
  obtain ⟨ov, e1, f1, f2, f3⟩ := (j.grow g).get h
  have nin : ∀ k s' ov', ρ[k]? = some s' → σ[k]? = some ov' → ¬ Owns s' ov' a := fun k s' ov' h1 h2 w => by
    obtain ⟨o, e, _⟩ := j.own h1 h2 w
    rw [n] at e; cases e
  have nm : a ∉ cs.map (·.1) := fun w => nin i _ ov h e1 w
  refine (j.grow g).setSl (s := .ox (cs ++ [(a, c)]) d) e1 ⟨f1, fun p hp => ?_, ?_⟩ fun b w k s' ov' ne g1 g2 w2 => ?_
  · rcases List.mem_append.mp hp with hp | hp
    · exact f2 p hp
    · rw [List.mem_singleton] at hp; subst hp
      exact .new h1 h0 (j.hp.sB.free n) r
  · rw [List.map_append, List.nodup_append]
    refine ⟨f3, by simp, fun x hx y hy => ?_⟩
    have : y = a := by simpa using hy
    subst this
    exact fun e => nm (e ▸ hx)
  · have w' : b ∈ cs.map (·.1) ∨ b = a := by
      have : b ∈ (cs ++ [(a, c)]).map (·.1) := w
      rw [List.map_append, List.mem_append] at this
      simpa using this
    rcases w' with w' | rfl
    · exact ne (j.dis k i s' _ ov' ov b g1 h g2 e1 w2 w')
    · exact nin k s' ov' g1 g2 w2
end
end DL
namespace DL
open PySem PySem.Spec L2
def RE (X : Cx) (e : Expr) : TE := fun σ H Q => ∃ t, PE X e t ∧ t σ H Q
def RT (X : Cx) (e : Expr) : TT := fun σ H Q => ∃ t, PT X e t ∧ t σ H Q
def RW (X : Cx) (e : Expr) : TT := fun σ H Q => ∃ t, PW X e t ∧ t σ H Q
def RA (X : Cx) (es : List Expr) : TA := fun σ H Q => ∃ t, PA X es t ∧ t σ H Q
def RS (X : Cx) (st : Stmt) : TS := fun D σ H => ∃ t, PS X st t ∧ t D σ H
def RSs (X : Cx) (sts : List Stmt) : TS := fun D σ H => ∃ t, PSs X sts t ∧ t D σ H
def RI (X : Cx) (tg iter : Expr) : TI := fun σ H R => ∃ t, PI X tg iter t ∧ t σ H R
def RG (X : Cx) (tg : Expr) : TG := fun v σ H Q => ∃ t, PG X tg t ∧ t v σ H Q
def RGs (X : Cx) (tg : List Expr) : TGs := fun vs σ H Q => ∃ t, PGs X tg t ∧ t vs σ H Q
section
variable {X : Cx}
theorem pe_star {e} : PE X e (RE X e) := ⟨fun pins s σ H Q I ⟨_, h, q⟩ => h.run pins s σ H Q I q⟩
theorem pt_star {e} : PT X e (RT X e) := ⟨fun pins s σ H Q I ⟨_, h, q⟩ => h.run pins s σ H Q I q⟩
theorem pw_star {e} : PW X e (RW X e) := ⟨fun wh pins s σ H Q I ⟨_, h, q⟩ => h.run wh pins s σ H Q I q⟩
theorem pa_star {es} : PA X es (RA X es) := ⟨fun pos pins s σ H Q I ⟨_, h, q⟩ => h.run pos pins s σ H Q I q⟩
theorem ps_star {st} : PS X st (RS X st) := ⟨fun pins s σ H D I ⟨_, h, q⟩ => h.run pins s σ H D I q⟩
theorem pss_star {st} : PSs X st (RSs X st) := ⟨fun pins s σ H D I ⟨_, h, q⟩ => h.run pins s σ H D I q⟩
theorem pi_star {tg it} : PI X tg it (RI X tg it) := ⟨fun pins s σ H R I ⟨_, h, q⟩ => h.run pins s σ H R I q⟩
theorem pg_star {tg} : PG X tg (RG X tg) := ⟨fun pins s σ H v u Q I r ⟨_, h, q⟩ => h.run pins s σ H v u Q I r q⟩
theorem pgs_star {tg} : PGs X tg (RGs X tg) := ⟨fun pins s σ H v u Q I r ⟨_, h, q⟩ => h.run pins s σ H v u Q I r q⟩
theorem RE.of {e t σ H Q} (h : PE X e t) (q : t σ H Q) : RE X e σ H Q := ⟨t, h, q⟩
theorem RT.of {e t σ H Q} (h : PT X e t) (q : t σ H Q) : RT X e σ H Q := ⟨t, h, q⟩
theorem RA.of {e t σ H Q} (h : PA X e t) (q : t σ H Q) : RA X e σ H Q := ⟨t, h, q⟩
end
def ED (X : Cx) (ρ : En) (e : Expr) (d : D) : Prop := ∀ B0 B σ H0 H (Q : VK), J X.K B0 B σ H0 H ρ → (∀ v H0' H', JH H0 H H0' H' → DR X.K H0' d v → Q v H') → RE X e σ H Q
/-- .. that is new and nobody else's -/
def EO (X : Cx) (ρ : En) (e : Expr) (c : OC) : Prop := ∀ B0 B σ H0 H (Q : VK), J X.K B0 B σ H0 H ρ → (∀ a o H0' H', JH H0 H H0' H' → H' a = some o → H0' a = none → H a = none → OCR X.K H0' c o → Q (.ref a) H') → RE X e σ H Q
def TD (X : Cx) (ρ : En) (e : Expr) (b : Bool) : Prop := ∀ B0 B σ H0 H (Q : Bool → Hp → Prop), J X.K B0 B σ H0 H ρ → (∀ H0' H', JH H0 H H0' H' → Q b H') → RT X e σ H Q
def TW (X : Cx) (ρ : En) (e : Expr) (b : Bool) : Prop := ∀ B0 B σ H0 H (Q : Bool → Hp → Prop), J X.K B0 B σ H0 H ρ → (∀ H0' H', JH H0 H H0' H' → Q b H') → RW X e σ H Q
def AD (X : Cx) (ρ : En) (es : List Expr) (ds : List D) : Prop := ∀ B0 B σ H0 H (Q : List V → Hp → Prop), J X.K B0 B σ H0 H ρ → (∀ vs H0' H', JH H0 H H0' H' → DRs X.K H0' ds vs → Q vs H') → RA X es σ H Q
/-- by values: a binary operation, a call of a built-in -/
def O2 (K : PySem.W.Frag) (r : R2) (d e f : D) : Prop := ∀ H0 H x y (Q : VK), Same H0 H → DR K H0 d x → DR K H0 e y → (∀ v H0' H', JH H0 H H0' H' → DR K H0' f v → Q v H') → r x y H Q
structure B2 (X : Cx) (op : Operator) (d e f : D) : Prop where
  ex : ∃ r, OpR X (binaryOp op) r ∧ O2 X.K r d e f
structure C2 (X : Cx) (op : CmpOp) (d e f : D) : Prop where
  ex : ∃ r, OpR X (compareOp op) r ∧ O2 X.K r d e f
structure BC (X : Cx) (f : Value) (ds : List D) (d : D) : Prop where
  ex : ∃ r, CallR X f r ∧ ∀ H0 H vs (Q : VK), Same H0 H → DRs X.K H0 ds vs → (∀ v H0' H', JH H0 H H0' H' → DR X.K H0' d v → Q v H') → r vs H Q
structure BO (X : Cx) (f : Value) (ds : List D) (c : OC) : Prop where
  ex : ∃ r, CallR X f r ∧ ∀ H0 H vs (Q : VK), Same H0 H → DRs X.K H0 ds vs → (∀ a o H0' H', JH H0 H H0' H' → H' a = some o → H0' a = none → H a = none → OCR X.K H0' c o → Q (.ref a) H') → r vs H Q
section
variable {X : Cx} {ρ : En} {e a b c : Expr} {d d1 d2 d3 : D} {pos : Pos}
theorem ED.eq {d' : D} (h : ED X ρ e d) (q : d = d') : ED X ρ e d' := q ▸ h
theorem TD.eq {k k' : Bool} (h : TD X ρ e k) (q : k = k') : TD X ρ e k' := q ▸ h
theorem EO.eq {c c' : OC} (h : EO X ρ e c) (q : c = c') : EO X ρ e c' := q ▸ h
theorem DR.own {K : PySem.W.Frag} {H0 : Hp} {c : OC} {a : Addr} {o : HO} (n : H0 a = none) (h : OCR K H0 c o) : DR K (upd H0 a o) c.d (.ref a) := OCR.dr n h
/-- .. and is given to all at once -/
theorem JH.give {H0 H H0' H' : Hp} {a : Addr} {o : HO} (g : JH H0 H H0' H') (h : H' a = some o) (h0 : H0' a = none) (n : H a = none) : JH H0 H (upd H0' a o) H' := by
  refine ⟨fun b u e => upd_keep (g.s0 b u e) (ne_of_none (g.s0 b u e) h0), fun b u e => ?_, g.sB, fun b u e nt e' => ?_⟩
  · by_cases hb : b = a
    · subst hb; rw [upd_same] at e; cases e; exact h
    · rw [upd_ne hb] at e; exact g.sh b u e
  · rw [upd_ne (ne_of_none e n)]; exact g.fr b u e nt e'
theorem ed_own {c : OC} (h : EO X ρ e c) : ED X ρ e c.d := fun B0 B σ H0 H Q j k =>
  h B0 B σ H0 H Q j fun a o H0' H' g h1 h2 h3 r => k _ (upd H0' a o) H' (g.give h1 h2 h3) (DR.own h2 r)
theorem ed_lst {ds : List D} (h : EO X ρ e (.lst ds)) : ED X ρ e (.lst ds) := ed_own h
theorem ed_var (i : Nat) {x : Str} (hρ : ρ[i]? = some (.sh d)) (hN : X.N[i]? = some x := by rfl) (hv : Vis X.env.scope x := by first | exact Or.inl rfl | exact Or.inr (Or.inl rfl) | exact Or.inr (Or.inr rfl)) (hd : (x == ("__debug__" : Str)) = false := by decide)
    (hcd : (x == ("__classdict__" : Str)) = false := by decide) : ED X ρ (.Name x pos) d := fun B0 B σ H0 H Q j k => by
  obtain ⟨ov, h1, v, rfl, h2⟩ := j.get hρ
  exact RE.of (pe_var hN hv hd hcd) ⟨v, h1, k v H0 H (JH.refl j.same) h2⟩
theorem ed_int {i j} : ED X ρ (.Constant (.int i) j pos) (.int i) := fun B0 B σ H0 H Q j k => RE.of pe_int (k _ H0 H (JH.refl j.same) rfl)
theorem ed_bl {i j} : ED X ρ (.Constant (.bool i) j pos) (.bl i) := fun B0 B σ H0 H Q j k => RE.of pe_bl (k _ H0 H (JH.refl j.same) rfl)
theorem ed_non {j} : ED X ρ (.Constant .none j pos) .non := fun B0 B σ H0 H Q j k => RE.of pe_non (k _ H0 H (JH.refl j.same) rfl)
theorem ed_str {i j} : ED X ρ (.Constant (.str i) j pos) (.str i) := fun B0 B σ H0 H Q j k => RE.of pe_str (k _ H0 H (JH.refl j.same) rfl)
theorem ed_bin {op : Operator} (ha : ED X ρ a d1) (hb : ED X ρ b d2) (ho : B2 X op d1 d2 d) : ED X ρ (.BinOp a op b pos) d := fun B0 B σ H0 H Q j k => by
  obtain ⟨r, h1, h2⟩ := ho
  refine RE.of (pe_op h1 pe_star pe_star) (ha B0 B σ H0 H _ j fun x G0 G g1 r1 => ?_)
  refine hb B0 B σ G0 G _ (j.grow g1) fun y L0 L g2 r2 => ?_
  exact h2 L0 L x y Q g2.sh (DR.mono g2.s0 _ _ r1) r2 fun v M0 M g3 r3 => k v M0 M ((g1.trans g2).trans g3) r3
theorem ed_cmp {op : CmpOp} (ha : ED X ρ a d1) (hb : ED X ρ b d2) (ho : C2 X op d1 d2 d) (hm : behindInMarks op b = false := by first | exact nomark _ | rfl) : ED X ρ (.Compare a [op] [b] pos) d := fun B0 B σ H0 H Q j k => by
  obtain ⟨r, h1, h2⟩ := ho
  refine RE.of (pe_cmpR h1 pe_star pe_star hm) (ha B0 B σ H0 H _ j fun x G0 G g1 r1 => ?_)
  refine hb B0 B σ G0 G _ (j.grow g1) fun y L0 L g2 r2 => ?_
  exact h2 L0 L x y Q g2.sh (DR.mono g2.s0 _ _ r1) r2 fun v M0 M g3 r3 => k v M0 M ((g1.trans g2).trans g3) r3
theorem td_cmp {op : CmpOp} {k : Bool} (ha : ED X ρ a d1) (hb : ED X ρ b d2) (ho : C2 X op d1 d2 (.bl k)) (hm : behindInMarks op b = false := by first | exact nomark _ | rfl) : TD X ρ (.Compare a [op] [b] pos) k := fun B0 B σ H0 H Q j kk => by
  obtain ⟨r, h1, h2⟩ := ho
  refine RT.of (pt_cmpR h1 pe_star pe_star hm) (ha B0 B σ H0 H _ j fun x G0 G g1 r1 => ?_)
  refine hb B0 B σ G0 G _ (j.grow g1) fun y L0 L g2 r2 => ?_
  refine h2 L0 L x y _ g2.sh (DR.mono g2.s0 _ _ r1) r2 fun v M0 M g3 r3 => ⟨k, r3, kk M0 M ((g1.trans g2).trans g3)⟩
theorem ed_chain {op op' : CmpOp} {k k' : Bool} (ha : ED X ρ a d1) (hb : ED X ρ b d2) (hc : ED X ρ c d3) (ho : C2 X op d1 d2 (.bl k)) (ho' : C2 X op' d2 d3 (.bl k')) (hm : lastMarks [op, op'] [b, c] = false := by with_unfolding_all rfl) :
    ED X ρ (.Compare a [op, op'] [b, c] pos) (.bl (k && k')) := fun B0 B σ H0 H Q j kk => by
  obtain ⟨r, h1, h2⟩ := ho
  obtain ⟨r', h1', h2'⟩ := ho'
  refine RE.of (pe_chain h1 h1' pe_star pe_star pe_star hm) (ha B0 B σ H0 H _ j fun x G0 G g1 r1 => ?_)
  refine hb B0 B σ G0 G _ (j.grow g1) fun y L0 L g2 r2 => ?_
  refine h2 L0 L x y _ g2.sh (DR.mono g2.s0 _ _ r1) r2 fun v M0 M g3 r3 => ⟨k, r3, ?_⟩
  cases k with
  | false => exact iteF (kk _ M0 M ((g1.trans g2).trans g3) rfl)
  | true =>
    refine iteT (hc B0 B σ M0 M _ (((j.grow g1).grow g2).grow g3) fun z N0 N g4 r4 => ?_)
    exact h2' N0 N y z Q g4.sh (DR.mono (g3.trans g4).s0 _ _ r2) r4 fun v P0 P g5 r5 => kk v P0 P (((g1.trans g2).trans (g3.trans g4)).trans g5) (by simpa using r5)
theorem td_chain {op op' : CmpOp} {k k' : Bool} (ha : ED X ρ a d1) (hb : ED X ρ b d2) (hc : ED X ρ c d3) (ho : C2 X op d1 d2 (.bl k)) (ho' : C2 X op' d2 d3 (.bl k')) (hm : lastMarks [op, op'] [b, c] = false := by with_unfolding_all rfl) :
    TD X ρ (.Compare a [op, op'] [b, c] pos) (k && k') := fun B0 B σ H0 H Q j kk => by
  obtain ⟨r, h1, h2⟩ := ho
  obtain ⟨r', h1', h2'⟩ := ho'
  refine RT.of (pt_chain h1 h1' pe_star pe_star pe_star hm) (ha B0 B σ H0 H _ j fun x G0 G g1 r1 => ?_)
  refine hb B0 B σ G0 G _ (j.grow g1) fun y L0 L g2 r2 => ?_
  refine h2 L0 L x y _ g2.sh (DR.mono g2.s0 _ _ r1) r2 fun v M0 M g3 r3 => ⟨k, r3, ?_⟩
  cases k with
  | false => exact iteF ⟨_, rfl, kk M0 M ((g1.trans g2).trans g3)⟩
  | true =>
    refine iteT (hc B0 B σ M0 M _ (((j.grow g1).grow g2).grow g3) fun z N0 N g4 r4 => ?_)
    exact h2' N0 N y z _ g4.sh (DR.mono (g3.trans g4).s0 _ _ r2) r4 fun v P0 P g5 r5 => ⟨k', r5, kk P0 P (((g1.trans g2).trans (g3.trans g4)).trans g5)⟩
theorem td_not {k : Bool} (h : TD X ρ a k) : TD X ρ (.UnaryOp .Not a pos) (!k) := fun B0 B σ H0 H Q j kk =>
  RT.of (pt_not pt_star) (h B0 B σ H0 H _ j fun H0' H' g => kk H0' H' g)
theorem tw_and1 {k : Bool} (h : TD X ρ a k) : TW X ρ (.BoolOp .And [a] pos) k := fun B0 B σ H0 H Q j kk => ⟨_, pw_and1 pt_star, h B0 B σ H0 H _ j kk⟩
theorem tw_or1 {k : Bool} (h : TD X ρ a k) : TW X ρ (.BoolOp .Or [a] pos) k := fun B0 B σ H0 H Q j kk => ⟨_, pw_or1 pt_star, h B0 B σ H0 H _ j kk⟩
theorem tw_and {k k' : Bool} {rest : List Expr} (h : TD X ρ a k) (h' : k = true → TW X ρ (.BoolOp .And (b :: rest) pos) k') : TW X ρ (.BoolOp .And (a :: b :: rest) pos) (k && k') := fun B0 B σ H0 H Q j kk => by
  refine ⟨_, pw_and pt_star pw_star, h B0 B σ H0 H _ j fun H0' H' g => ?_⟩
  cases k with
  | false => exact iteF (kk H0' H' g)
  | true => exact iteT (h' rfl B0 B σ H0' H' _ (j.grow g) fun G0 G g2 => kk G0 G (g.trans g2))
theorem tw_or {k k' : Bool} {rest : List Expr} (h : TD X ρ a k) (h' : k = false → TW X ρ (.BoolOp .Or (b :: rest) pos) k') : TW X ρ (.BoolOp .Or (a :: b :: rest) pos) (k || k') := fun B0 B σ H0 H Q j kk => by
  refine ⟨_, pw_or pt_star pw_star, h B0 B σ H0 H _ j fun H0' H' g => ?_⟩
  cases k with
  | true => exact iteT (kk H0' H' g)
  | false => exact iteF (h' rfl B0 B σ H0' H' _ (j.grow g) fun G0 G g2 => kk G0 G (g.trans g2))
theorem td_tw {k : Bool} (h : TW X ρ e k) : TD X ρ e k := fun B0 B σ H0 H Q j kk => by
  obtain ⟨t, h1, h2⟩ := h B0 B σ H0 H Q j kk
  exact ⟨t, h1.pt, h2⟩
/-- and, or as values -/
theorem ed_one {op} (h : ED X ρ a d) : ED X ρ (.BoolOp op [a] pos) d := fun B0 B σ H0 H Q j kk => RE.of (pe_one pe_star) (h B0 B σ H0 H _ j kk)
theorem ed_and {k k' : Bool} {rest : List Expr} (h : ED X ρ a (.bl k)) (h' : k = true → ED X ρ (.BoolOp .And (b :: rest) pos) (.bl k')) : ED X ρ (.BoolOp .And (a :: b :: rest) pos) (.bl (k && k')) := fun B0 B σ H0 H Q j kk => by
  refine RE.of (pe_and pe_star pe_star) (h B0 B σ H0 H _ j fun v H0' H' g r => ⟨k, r, ?_⟩)
  cases k with
  | false => exact iteF (kk _ H0' H' g rfl)
  | true => exact iteT (h' rfl B0 B σ H0' H' _ (j.grow g) fun v G0 G g2 r2 => kk v G0 G (g.trans g2) r2)
theorem ed_or {k k' : Bool} {rest : List Expr} (h : ED X ρ a (.bl k)) (h' : k = false → ED X ρ (.BoolOp .Or (b :: rest) pos) (.bl k')) : ED X ρ (.BoolOp .Or (a :: b :: rest) pos) (.bl (k || k')) := fun B0 B σ H0 H Q j kk => by
  refine RE.of (pe_or pe_star pe_star) (h B0 B σ H0 H _ j fun v H0' H' g r => ⟨k, r, ?_⟩)
  cases k with
  | true => exact iteT (kk _ H0' H' g rfl)
  | false => exact iteF (h' rfl B0 B σ H0' H' _ (j.grow g) fun v G0 G g2 r2 => kk v G0 G (g.trans g2) r2)
theorem ed_if {k : Bool} (h : TD X ρ c k) (h1 : k = true → ED X ρ a d) (h2 : k = false → ED X ρ b d) : ED X ρ (.IfExp c a b pos) d := fun B0 B σ H0 H Q j kk => by
  refine RE.of (pe_ifExp pt_star pe_star pe_star) (h B0 B σ H0 H _ j fun H0' H' g => ?_)
  cases k with
  | true => exact iteT (h1 rfl B0 B σ H0' H' _ (j.grow g) fun v G0 G g2 r2 => kk v G0 G (g.trans g2) r2)
  | false => exact iteF (h2 rfl B0 B σ H0' H' _ (j.grow g) fun v G0 G g2 r2 => kk v G0 G (g.trans g2) r2)
theorem ed_neg {i : Int} (h : ED X ρ a (.int i)) : ED X ρ (.UnaryOp .USub a pos) (.int (-i)) := fun B0 B σ H0 H Q j kk =>
  RE.of (pe_un un_neg pe_star) (h B0 B σ H0 H _ j fun v H0' H' g r => ⟨i, r, kk _ H0' H' g rfl⟩)
theorem ad_nil : AD X ρ [] [] := fun B0 B σ H0 H Q j k => RA.of pa_nil (k [] H0 H (JH.refl j.same) rfl)
theorem ad_cons {es : List Expr} {ds : List D} (h : ED X ρ e d) (r : AD X ρ es ds) (hs : starEach (e :: es) X.env = (false, eval e X.env) :: starEach es X.env := by rfl) : AD X ρ (e :: es) (d :: ds) := fun B0 B σ H0 H Q j k =>
  RA.of (pa_cons pe_star pa_star hs) (h B0 B σ H0 H _ j fun v G0 G g1 r1 => r B0 B σ G0 G _ (j.grow g1) fun vs L0 L g2 r2 => k (v :: vs) L0 L (g1.trans g2) ⟨v, vs, rfl, DR.mono g2.s0 _ _ r1, r2⟩)
theorem ed_tup {es : List Expr} {ds : List D} {x1} (h : AD X ρ es ds) (hl : ds.length ≤ sizeLine := by first | decide | (simp only [List.length_cons, List.length_nil]; decide)) : ED X ρ (.Tuple es x1 pos) (.tup ds) := fun B0 B σ H0 H Q j k =>
  RE.of (pe_tup pa_star) (h B0 B σ H0 H _ j fun vs G0 G g r => ⟨by rw [← r.length]; exact hl, fun p hp => by
    have g2 : JH G0 G (upd G0 p (.tup vs)) (upd G p (.tup vs)) := JH.new g.sh hp
    exact k _ _ _ (g.trans g2) ⟨p, vs, rfl, SqT.of upd_same, DRs.mono g2.s0 _ _ r⟩⟩)
theorem eo_lst {es : List Expr} {ds : List D} (h : AD X ρ es ds) (hl : ds.length ≤ sizeLine := by first | decide | (simp only [List.length_cons, List.length_nil]; decide)) : EO X ρ (.List es pos) (.lst ds) := fun B0 B σ H0 H Q j k =>
  RE.of (pe_lst pa_star) (h B0 B σ H0 H _ j fun vs G0 G g r => ⟨by rw [← r.length]; exact hl, fun p hp => by
    have g2 : JH G0 G G0 (upd G p (.lst vs)) := JH.own g.sh hp
    exact k p _ _ _ (g.trans g2) upd_same (g.sh.free hp) (g.sB.free hp) ⟨vs, rfl, r⟩⟩)
theorem eo_dk : EO X ρ (.Dict [] [] pos) (.dk [] []) := fun B0 B σ H0 H Q j k =>
  RE.of pe_dnewK fun p hp => k p _ _ _ (JH.own j.same hp) upd_same (j.same.free hp) hp ⟨[], rfl, rfl, rfl⟩
def spR (K : PySem.W.Frag) (R : List D → D → Prop) : Sp := fun vs H Q _ => ∃ H0 ds d, Same H0 H ∧ DRs K H0 ds vs ∧ R ds d ∧ ∀ r H0' H', JH H0 H H0' H' → DR K H0' d r → Q r H'
/-- a def of the program at hand -/
structure Fn (P : Program) (w : World) (K : PySem.W.Frag) (mg : Str → Option Value) (base : Heap) (x : Str) (k : Nat) (R : List D → D → Prop) : Prop where
  ex : ∃ f fd ps, FnOk P w K mg base CX0 k f fd ps (spR K R) ∧ mg x = some (.ref f) ∧ PySem.W.keepIn K (.ref f) = true ∧ Binds K fd ps []
theorem ed_call {x : Str} {k : Nat} {R : List D → D → Prop} {es : List Expr} {ds : List D} {p : Pos} (G : Fn X.prog X.w X.K X.mg X.base x k R) (hr : Room k X.A) (hg : Gl X x) (ha : AD X ρ (e :: es) ds) (hR : R ds d)
    (hdb : (x == ("__debug__" : Str)) = false := by decide) (he : starEach (e :: es) X.env = (false, eval e X.env) :: starEach es X.env := by rfl) (hpl : (backTo pos (starEach es X.env)).any (·.1) = false := by rfl) :
    ED X ρ (.Call (.Name x p) (e :: es) [] pos) d := fun B0 B σ H0 H Q j kk => by
  obtain ⟨f, fd, ps, F, hm, hk, hb⟩ := G.ex
  refine RE.of (pe_call (E := E0) F hr hg hm hk hb .nil pass0 pa_star hdb he hpl) (ha B0 B σ H0 H _ j fun vs G0 G g r => ?_)
  rw [List.append_nil]
  exact ⟨G0, ds, d, g.sh, r, hR, fun v L0 L g2 r2 => kk v L0 L (g.trans g2) r2⟩
theorem ed_callB {x : Str} {id : String} {es : List Expr} {ds : List D} {p : Pos} (hg : Gl X x) (hm : X.mg x = none) (hv : bootBuiltins x = some (.builtin id)) (ha : AD X ρ (e :: es) ds) (h : BC X (.builtin id) ds d) (hn : x ≠ "__name__" := by decide) (hdb : (x == ("__debug__" : Str)) = false := by decide)
    (he : starEach (e :: es) X.env = (false, eval e X.env) :: starEach es X.env := by rfl) (hpl : (backTo pos (starEach es X.env)).any (·.1) = false := by rfl) : ED X ρ (.Call (.Name x p) (e :: es) [] pos) d := fun B0 B σ H0 H Q j kk => by
  obtain ⟨r, h1, h2⟩ := h
  exact RE.of (pe_callB h1 hg hm hv pa_star hn hdb he hpl) (ha B0 B σ H0 H _ j fun vs G0 G g r => h2 G0 G vs Q g.sh r fun v L0 L g2 r2 => kk v L0 L (g.trans g2) r2)
theorem ed_callT {x : Str} {T : String} {es : List Expr} {ds : List D} {p : Pos} (hg : Gl X x) (hm : X.mg x = none) (hv : bootBuiltins x = some (.type T)) (ha : AD X ρ (e :: es) ds) (h : BC X (.type T) ds d) (hn : x ≠ "__name__" := by decide) (hdb : (x == ("__debug__" : Str)) = false := by decide)
    (he : starEach (e :: es) X.env = (false, eval e X.env) :: starEach es X.env := by rfl) (hpl : (backTo pos (starEach es X.env)).any (·.1) = false := by rfl) : ED X ρ (.Call (.Name x p) (e :: es) [] pos) d := fun B0 B σ H0 H Q j kk => by
  obtain ⟨r, h1, h2⟩ := h
  exact RE.of (pe_callTy h1 hg hm hv pa_star hn hdb he hpl) (ha B0 B σ H0 H _ j fun vs G0 G g r => h2 G0 G vs Q g.sh r fun v L0 L g2 r2 => kk v L0 L (g.trans g2) r2)
end
section
variable {X : Cx}
theorem o2_keep {K : PySem.W.Frag} {r : R2} {d e f : D} (v : V) (hv : ∀ H0 : Hp, DR K H0 f v) (h : ∀ H0 H x y (Q : VK), Same H0 H → DR K H0 d x → DR K H0 e y → Q v H → r x y H Q) : O2 K r d e f := fun H0 H x y Q s r1 r2 k =>
  h H0 H x y Q s r1 r2 (k v H0 H (JH.refl s) (hv H0))
theorem b2_add {i j : Int} : B2 X .Add (.int i) (.int j) (.int (i + j)) := ⟨_, op_add, o2_keep _ (fun _ => rfl) fun _ _ _ _ _ _ r1 r2 q => ⟨i, j, r1, r2, q⟩⟩
theorem b2_sub {i j : Int} : B2 X .Sub (.int i) (.int j) (.int (i - j)) := ⟨_, op_sub, o2_keep _ (fun _ => rfl) fun _ _ _ _ _ _ r1 r2 q => ⟨i, j, r1, r2, q⟩⟩
theorem b2_mul {i j : Int} (h : CMul i j) : B2 X .Mult (.int i) (.int j) (.int (i * j)) := ⟨_, op_mul, o2_keep _ (fun _ => rfl) fun _ _ _ _ _ _ r1 r2 q => ⟨i, j, r1, r2, h, q⟩⟩
theorem b2_fdiv {i j : Int} (h : CDiv i j) : B2 X .FloorDiv (.int i) (.int j) (.int (i / j)) := ⟨_, op_fdiv, o2_keep _ (fun _ => rfl) fun _ _ _ _ _ _ r1 r2 q => ⟨i, j, r1, r2, h, q⟩⟩
theorem b2_mod {i j : Int} (h : 0 < j) : B2 X .Mod (.int i) (.int j) (.int (i % j)) := ⟨_, op_mod, o2_keep _ (fun _ => rfl) fun _ _ _ _ _ _ r1 r2 q => ⟨i, j, r1, r2, h, q⟩⟩
theorem b2_pow {i j : Int} (h : CPow i j) : B2 X .Pow (.int i) (.int j) (.int (i ^ j.toNat)) := ⟨_, op_pow, o2_keep _ (fun _ => rfl) fun _ _ _ _ _ _ r1 r2 q => ⟨i, j, r1, r2, h, q⟩⟩
theorem b2_addS {i j : Str} (h : i.length + j.length ≤ sizeLine) : B2 X .Add (.str i) (.str j) (.str (i ++ j)) := ⟨_, op_add_str, o2_keep _ (fun _ => rfl) fun _ _ _ _ _ _ r1 r2 q => ⟨i, j, r1, r2, h, q⟩⟩
theorem c2_lt {i j : Int} : C2 X .Lt (.int i) (.int j) (.bl (decide (i < j))) := ⟨_, op_lt, o2_keep _ (fun _ => rfl) fun _ _ _ _ _ _ r1 r2 q => ⟨i, j, r1, r2, q⟩⟩
theorem c2_le {i j : Int} : C2 X .LtE (.int i) (.int j) (.bl (decide (i ≤ j))) := ⟨_, op_le, o2_keep _ (fun _ => rfl) fun _ _ _ _ _ _ r1 r2 q => ⟨i, j, r1, r2, q⟩⟩
theorem c2_gt {i j : Int} : C2 X .Gt (.int i) (.int j) (.bl (decide (j < i))) := ⟨_, op_gt, o2_keep _ (fun _ => rfl) fun _ _ _ _ _ _ r1 r2 q => ⟨i, j, r1, r2, q⟩⟩
theorem c2_ge {i j : Int} : C2 X .GtE (.int i) (.int j) (.bl (decide (j ≤ i))) := ⟨_, op_ge, o2_keep _ (fun _ => rfl) fun _ _ _ _ _ _ r1 r2 q => ⟨i, j, r1, r2, q⟩⟩
theorem c2_eqI {i j : Int} : C2 X .Eq (.int i) (.int j) (.bl (decide (i = j))) := ⟨_, op_eq, fun H0 H x y Q s r1 r2 k => by
  cases (show x = .int i from r1); cases (show y = .int j from r2)
  exact ⟨rfl, k _ H0 H (JH.refl s) (by simp [DR])⟩⟩
theorem c2_neI {i j : Int} : C2 X .NotEq (.int i) (.int j) (.bl (!decide (i = j))) := ⟨_, op_ne, fun H0 H x y Q s r1 r2 k => by
  cases (show x = .int i from r1); cases (show y = .int j from r2)
  exact ⟨rfl, k _ H0 H (JH.refl s) (by simp [DR])⟩⟩
theorem c2_eqS {i j : Str} : C2 X .Eq (.str i) (.str j) (.bl (decide (i = j))) := ⟨_, op_eq, fun H0 H x y Q s r1 r2 k => by
  cases (show x = .str i from r1); cases (show y = .str j from r2)
  exact ⟨rfl, k _ H0 H (JH.refl s) (by simp [DR])⟩⟩
theorem c2_neS {i j : Str} : C2 X .NotEq (.str i) (.str j) (.bl (!decide (i = j))) := ⟨_, op_ne, fun H0 H x y Q s r1 r2 k => by
  cases (show x = .str i from r1); cases (show y = .str j from r2)
  exact ⟨rfl, k _ H0 H (JH.refl s) (by simp [DR])⟩⟩
theorem c2_eqB {i j : Bool} : C2 X .Eq (.bl i) (.bl j) (.bl (decide (i = j))) := ⟨_, op_eq, fun H0 H x y Q s r1 r2 k => by
  cases (show x = .bl i from r1); cases (show y = .bl j from r2)
  exact ⟨rfl, k _ H0 H (JH.refl s) (by simp [DR])⟩⟩
theorem c2_neB {i j : Bool} : C2 X .NotEq (.bl i) (.bl j) (.bl (!decide (i = j))) := ⟨_, op_ne, fun H0 H x y Q s r1 r2 k => by
  cases (show x = .bl i from r1); cases (show y = .bl j from r2)
  exact ⟨rfl, k _ H0 H (JH.refl s) (by simp [DR])⟩⟩
theorem c2_isB {i j : Bool} : C2 X .Is (.bl i) (.bl j) (.bl (decide (i = j))) := ⟨_, op_isBl, o2_keep _ (fun _ => rfl) fun _ _ _ _ _ _ r1 r2 q => ⟨i, j, r1, r2, q⟩⟩
theorem c2_notB {i j : Bool} : C2 X .IsNot (.bl i) (.bl j) (.bl (!decide (i = j))) := ⟨_, op_notBl, o2_keep _ (fun _ => rfl) fun _ _ _ _ _ _ r1 r2 q => ⟨i, j, r1, r2, q⟩⟩
def isNon : D → Bool
  | .non => true
  | _ => false
theorem DR.non {K : PySem.W.Frag} {H : Hp} {d : D} {v : V} (h : DR K H d v) : decide (v = .non) = isNon d := by
  cases d with
  | non => cases (show v = .non from h); rfl
  | bl _ => cases (show v = .bl _ from h); rfl
  | int _ => cases (show v = .int _ from h); rfl
  | str _ => cases (show v = .str _ from h); rfl
  | ty _ => cases (show v = .ty _ from h); rfl
  | lst _ => obtain ⟨_, _, rfl, _⟩ := h; rfl
  | tup _ => obtain ⟨_, _, rfl, _⟩ := h; rfl
  | dk _ _ => obtain ⟨_, _, rfl, _⟩ := h; rfl
  | dt _ _ => obtain ⟨_, _, rfl, _⟩ := h; rfl
  | obj _ _ _ => obtain ⟨_, _, _, _, rfl, _⟩ := h; rfl
  | ad _ => cases (show v = .ref _ from h); rfl
  | ptp _ => obtain ⟨_, _, _, rfl, _⟩ := h; rfl
  | etp _ => obtain ⟨_, _, rfl, _⟩ := h; rfl
  | exc _ _ _ _ => obtain ⟨rfl, _⟩ := h; rfl
theorem c2_isN {d : D} : C2 X .Is d .non (.bl (isNon d)) := ⟨_, op_isN, fun H0 H x y Q s r1 r2 k => ⟨r2, k _ H0 H (JH.refl s) (by rw [r1.non]; rfl)⟩⟩
theorem c2_notN {d : D} : C2 X .IsNot d .non (.bl (!isNon d)) := ⟨_, op_notN, fun H0 H x y Q s r1 r2 k => ⟨r2, k _ H0 H (JH.refl s) (by rw [r1.non]; rfl)⟩⟩
mutual
def D.py : D → PyData
  | .non => .none
  | .bl b => .bool b
  | .int i => .int i
  | .str x => .str x
  | .lst ds => .list (D.pys ds)
  | .tup ds => .tuple (D.pys ds)
  | .dk _ _ => .none
  | .dt _ _ => .none
  | .obj _ _ _ => .none
  | .ad _ => .none
  | .ptp _ => .none
  | .etp _ => .none
  | .exc _ _ _ _ => .none
  | .ty _ => .none
def D.pys : List D → List PyData
  | [] => []
  | d :: ds => D.py d :: D.pys ds
end
mutual
def D.plain : D → Bool
  | .lst ds => D.plains ds
  | .tup ds => D.plains ds
  | .dk _ _ => false
  | .dt _ _ => false
  | .obj _ _ _ => false
  | .ad _ => false
  | .ptp _ => false
  | .etp _ => false
  | .exc _ _ _ _ => false
  | .ty _ => false
  | _ => true
def D.plains : List D → Bool
  | [] => true
  | d :: ds => D.plain d && D.plains ds
end
mutual
theorem DR.dp {K : PySem.W.Frag} {H : Hp} : ∀ (d : D) (v : V), d.plain = true → DR K H d v → Dp K H v d.py
  | .non, v, _, h => by cases (show v = .non from h); exact .non
  | .bl b, v, _, h => by cases (show v = .bl b from h); exact .bl b
  | .int b, v, _, h => by cases (show v = .int b from h); exact .int b
  | .str b, v, _, h => by cases (show v = .str b from h); exact .str b
  | .lst ds, v, p, h => by
    obtain ⟨a, vs, rfl, h2, h3⟩ := h
    exact .lst h2 (DRs.dp ds vs (by simpa [D.plain] using p) h3)
  | .tup ds, v, p, h => by
    obtain ⟨a, vs, rfl, h2, h3⟩ := h
    exact .tup h2 (DRs.dp ds vs (by simpa [D.plain] using p) h3)
  | .dk _ _, v, p, h => by simp [D.plain] at p
  | .dt _ _, v, p, h => by simp [D.plain] at p
  | .obj _ _ _, v, p, h => by simp [D.plain] at p
  | .ad _, v, p, h => by simp [D.plain] at p
  | .ptp _, v, p, h => by simp [D.plain] at p
  | .etp _, v, p, h => by simp [D.plain] at p
  | .exc _ _ _ _, v, p, h => by simp [D.plain] at p
  | .ty _, v, p, h => by simp [D.plain] at p
theorem DRs.dp {K : PySem.W.Frag} {H : Hp} : ∀ (ds : List D) (vs : List V), D.plains ds = true → DRs K H ds vs → DpAll K H vs (D.pys ds)
  | [], vs, _, h => by cases (show vs = [] from h); exact .nil
  | d :: ds, vs, p, h => by
    obtain ⟨v, r, rfl, h2, h3⟩ := h
    simp only [D.plains, Bool.and_eq_true] at p
    exact .cons (DR.dp d v p.1 h2) (DRs.dp ds r p.2 h3)
end
/-- data that == may be asked of -/
structure Cmp (d : D) : Prop where
  p : d.plain = true
  s : SeqAt.shaped d.py = true
theorem c2_eqD {d e : D} {k : Bool} (hu : X.A.units + 64 < cLine) (hd : Cmp d) (he : Cmp e) (h : PyData.eqv d.py e.py = k) : C2 X .Eq d e (.bl k) := ⟨_, op_eqD hu, fun H0 H x y Q s r1 r2 kk =>
  ⟨d.py, e.py, DR.dp _ _ hd.p (DR.mono s _ _ r1), DR.dp _ _ he.p (DR.mono s _ _ r2), hd.s, he.s, kk _ H0 H (JH.refl s) (by rw [h]; rfl)⟩⟩
theorem c2_neD {d e : D} {k : Bool} (hu : X.A.units + 64 < cLine) (hd : Cmp d) (he : Cmp e) (h : PyData.eqv d.py e.py = k) : C2 X .NotEq d e (.bl (!k)) := ⟨_, op_neD hu, fun H0 H x y Q s r1 r2 kk =>
  ⟨d.py, e.py, DR.dp _ _ hd.p (DR.mono s _ _ r1), DR.dp _ _ he.p (DR.mono s _ _ r2), hd.s, he.s, kk _ H0 H (JH.refl s) (by rw [h]; rfl)⟩⟩
theorem ix_t {ds : List D} {i : Int} {d : D} {ρ : En} {a b : Expr} {pos : Pos} (ha : ED X ρ a (.tup ds)) (hb : ED X ρ b (.int i)) (h : atI ds i = some d) (hs : PlainIx b := by exact fun _ _ => rfl) : ED X ρ (.Subscript a b pos) d := fun B0 B σ H0 H Q j kk => by
  refine RE.of (pe_ix ix_tup pe_star pe_star hs) (ha B0 B σ H0 H _ j fun x G0 G g1 r1 => hb B0 B σ G0 G _ (j.grow g1) fun y L0 L g2 r2 => ?_)
  obtain ⟨p, vs, rfl, h1, h2⟩ := DR.mono g2.s0 _ _ r1
  obtain ⟨k, e1, e2, _⟩ := atI_get h
  obtain ⟨v, h3, h4⟩ := DRs.get h2 e2
  have e4 : atI vs i = some v := by
    unfold atI at h ⊢
    rw [← DRs.length h2]
    cases q : ixN ds.length i with
    | none => rw [q] at h; cases h
    | some m =>
      rw [q] at h
      obtain ⟨v', h5, h6⟩ := DRs.get h2 (show ds[m]? = some d from h)
      show vs[m]? = some v
      have := (ixN_seq q).1
      rw [e1] at this
      cases this
      exact h3
  exact ⟨p, vs, i, v, rfl, r2, Same.seqT g2.sh h1, e4, kk v L0 L (g1.trans g2) h4⟩
theorem ix_l {ds : List D} {i : Int} {d : D} {ρ : En} {a b : Expr} {pos : Pos} (ha : ED X ρ a (.lst ds)) (hb : ED X ρ b (.int i)) (h : atI ds i = some d) (hs : PlainIx b := by exact fun _ _ => rfl) : ED X ρ (.Subscript a b pos) d := fun B0 B σ H0 H Q j kk => by
  refine RE.of (pe_ix ix_list pe_star pe_star hs) (ha B0 B σ H0 H _ j fun x G0 G g1 r1 => hb B0 B σ G0 G _ (j.grow g1) fun y L0 L g2 r2 => ?_)
  obtain ⟨p, vs, rfl, h1, h2⟩ := DR.mono g2.s0 _ _ r1
  obtain ⟨k, e1, e2, _⟩ := atI_get h
  obtain ⟨v, h3, h4⟩ := DRs.get h2 e2
  have e4 : atI vs i = some v := by
    unfold atI at h ⊢
    rw [← DRs.length h2]
    cases q : ixN ds.length i with
    | none => rw [q] at h; cases h
    | some m =>
      rw [q] at h
      show vs[m]? = some v
      have := (ixN_seq q).1
      rw [e1] at this
      cases this
      exact h3
  exact ⟨p, vs, i, v, rfl, r2, g2.sh.seq h1, e4, kk v L0 L (g1.trans g2) h4⟩
theorem bc_keep {f : Value} {ds : List D} {d : D} {r : List V → Hp → VK → Prop} (c : CallR X f r) (v : V) (hv : ∀ H0 : Hp, DR X.K H0 d v) (h : ∀ H0 H vs (Q : VK), Same H0 H → DRs X.K H0 ds vs → Q v H → r vs H Q) : BC X f ds d :=
  ⟨r, c, fun H0 H vs Q s r1 k => h H0 H vs Q s r1 (k v H0 H (JH.refl s) (hv H0))⟩
theorem DRs.two {K : PySem.W.Frag} {H : Hp} {d e : D} {vs : List V} (h : DRs K H [d, e] vs) : ∃ x y, vs = [x, y] ∧ DR K H d x ∧ DR K H e y := by
  obtain ⟨x, r, rfl, h1, h2⟩ := h
  obtain ⟨y, r, rfl, h3, h4⟩ := h2
  cases (show r = [] from h4)
  exact ⟨x, y, rfl, h1, h3⟩
theorem DRs.one' {K : PySem.W.Frag} {H : Hp} {d : D} {vs : List V} (h : DRs K H [d] vs) : ∃ x, vs = [x] ∧ DR K H d x := by
  obtain ⟨x, r, rfl, h1, h2⟩ := h
  cases (show r = [] from h2)
  exact ⟨x, rfl, h1⟩
theorem bc_int {i : Int} : BC X (.type "int") [.int i] (.int i) := bc_keep call_int1 _ (fun _ => rfl) fun _ _ vs _ _ r q => by
  obtain ⟨x, rfl, h⟩ := r.one'
  cases (show x = .int i from h)
  exact .inl ⟨i, rfl, q⟩
theorem bc_min2 {i j : Int} (hc : X.calm = true) : BC X (.builtin "min") [.int i, .int j] (.int (min i j)) := bc_keep (call_min2 hc) _ (fun _ => rfl) fun _ _ vs _ _ r q => by
  obtain ⟨x, y, rfl, h, h'⟩ := r.two
  cases (show x = .int i from h); cases (show y = .int j from h')
  have e : min i j = (if j < i then j else i) := by split <;> omega
  exact ⟨i, j, rfl, by rw [← e]; exact q⟩
theorem bc_max2 {i j : Int} (hc : X.calm = true) : BC X (.builtin "max") [.int i, .int j] (.int (max i j)) := bc_keep (call_max2 hc) _ (fun _ => rfl) fun _ _ vs _ _ r q => by
  obtain ⟨x, y, rfl, h, h'⟩ := r.two
  cases (show x = .int i from h); cases (show y = .int j from h')
  have e : max i j = (if j > i then j else i) := by split <;> omega
  exact ⟨i, j, rfl, by rw [← e]; exact q⟩
theorem bc_lenL {ds : List D} : BC X (.builtin "len") [.lst ds] (.int ds.length) := bc_keep call_len_seq _ (fun _ => rfl) fun _ _ vs _ s r q => by
  obtain ⟨x, rfl, a, ys, rfl, h1, h2⟩ := r.one'
  exact ⟨a, ys, rfl, .inl (s.seq h1), by rw [← DRs.length h2]; exact q⟩
theorem bc_lenT {ds : List D} : BC X (.builtin "len") [.tup ds] (.int ds.length) := bc_keep call_len_seq _ (fun _ => rfl) fun _ _ vs _ s r q => by
  obtain ⟨x, rfl, a, ys, rfl, h1, h2⟩ := r.one'
  exact ⟨a, ys, rfl, .inr (Same.seqT s h1), by rw [← DRs.length h2]; exact q⟩
theorem bc_lenS {z : Str} (h : z.length ≤ sizeLine) : BC X (.builtin "len") [.str z] (.int z.length) := bc_keep call_len_str _ (fun _ => rfl) fun _ _ vs _ s r q => by
  obtain ⟨x, rfl, h1⟩ := r.one'
  exact ⟨z, by rw [show x = .str z from h1], h, q⟩
theorem bc_tupL {ds : List D} : BC X (.type "tuple") [.lst ds] (.tup ds) := ⟨_, call_tuple_of, fun H0 H vs Q s r k => by
  obtain ⟨x, rfl, a, ys, rfl, h1, h2⟩ := r.one'
  exact ⟨a, ys, rfl, .inl ⟨s.seq h1, fun l hl => k _ (upd H0 l (.tup ys)) _ (JH.new s hl) ⟨l, ys, rfl, SqT.of upd_same, DRs.mono (JH.new s hl).s0 _ _ h2⟩⟩⟩⟩
theorem bc_tupT {ds : List D} : BC X (.type "tuple") [.tup ds] (.tup ds) := ⟨_, call_tuple_of, fun H0 H vs Q s r k => by
  obtain ⟨x, rfl, a, ys, rfl, h1, h2⟩ := r.one'
  exact ⟨a, ys, rfl, .inr ⟨Same.seqT s h1, k _ H0 H (JH.refl s) ⟨a, ys, rfl, h1, h2⟩⟩⟩⟩
theorem bo_listL {ds : List D} : BO X (.type "list") [.lst ds] (.lst ds) := ⟨_, call_list_of, fun H0 H vs Q s r k => by
  obtain ⟨x, rfl, a, ys, rfl, h1, h2⟩ := r.one'
  exact ⟨a, ys, rfl, .inl (s.seq h1), fun l hl => k l _ _ _ (JH.own s hl) upd_same (s.free hl) hl ⟨ys, rfl, h2⟩⟩⟩
theorem bo_listT {ds : List D} : BO X (.type "list") [.tup ds] (.lst ds) := ⟨_, call_list_of, fun H0 H vs Q s r k => by
  obtain ⟨x, rfl, a, ys, rfl, h1, h2⟩ := r.one'
  exact ⟨a, ys, rfl, .inr (Same.seqT s h1), fun l hl => k l _ _ _ (JH.own s hl) upd_same (s.free hl) hl ⟨ys, rfl, h2⟩⟩⟩
theorem bc_sum {ns : List Int} (hc : X.calm = true) : BC X (.builtin "sum") [.lst (ns.map D.int)] (.int ns.sum) := bc_keep (cr_sum hc) _ (fun _ => rfl) fun _ _ vs _ s r q => by
  obtain ⟨x, rfl, a, ys, rfl, h1, h2⟩ := r.one'
  rw [DRs.ints h2] at h1
  exact ⟨a, ns, rfl, s.seq h1, q⟩
theorem bc_all {bs : List Bool} (hc : X.calm = true) : BC X (.builtin "all") [.lst (bs.map D.bl)] (.bl (bs.all id)) := bc_keep (cr_all hc) _ (fun _ => rfl) fun _ _ vs _ s r q => by
  obtain ⟨x, rfl, a, ys, rfl, h1, h2⟩ := r.one'
  rw [DRs.bls h2] at h1
  exact ⟨a, bs, rfl, s.seq h1, q⟩
end
end DL
namespace DL
open PySem PySem.Spec L2
def DG (X : Cx) (is : List Nat) (tg : Expr) (d : D) (ρ ρ' : En) : Prop := ∀ B0 B σ H0 H v (Q : St → Hp → Prop), J X.K B0 B σ H0 H ρ → DR X.K H0 d v → (∀ σ', J X.K B0 B σ' H0 H ρ' → (∀ k, k ∉ is → σ'[k]? = σ[k]?) → Q σ' H) → RG X tg v σ H Q
def DGs (X : Cx) (is : List Nat) (ts : List Expr) (ds : List D) (ρ ρ' : En) : Prop := ∀ B0 B σ H0 H vs (Q : St → Hp → Prop), J X.K B0 B σ H0 H ρ → DRs X.K H0 ds vs → (∀ σ', J X.K B0 B σ' H0 H ρ' → (∀ k, k ∉ is → σ'[k]? = σ[k]?) → Q σ' H) → RGs X ts vs σ H Q
section
variable {X : Cx} {ρ ρ' ρ2 : En} {e a b c : Expr} {d d1 d2 d3 : D} {pos : Pos}
theorem dg_name (i : Nat) {x : Str} (hN : X.N.Nodup) (hi : X.N[i]? = some x := by rfl) (hx : Loc X.env.scope x := by first | exact Or.inl rfl | exact Or.inr rfl) (hf : X.fn x = true ∨ X.env.scope.names.lookup x = some .local := by first | exact .inl rfl | exact .inr rfl) :
    DG X [i] (.Name x pos) d ρ (ρ.set i (.sh d)) := fun B0 B σ H0 H v Q j r k => by
  refine ⟨_, pg_name hN hi hx hf, k _ (j.setSh r) fun m hm => ?_⟩
  rw [List.getElem?_set_ne (fun e => hm (by simp [e]))]
theorem dgs_nil : DGs X [] [] [] ρ ρ := fun B0 B σ H0 H vs Q j r k => by
  cases (show vs = [] from r)
  exact ⟨_, pgs_nil, rfl, k σ j fun _ _ => rfl⟩
theorem dgs_cons {is is' : List Nat} {es : List Expr} {ds : List D} (h : DG X is e d ρ ρ') (r : DGs X is' es ds ρ' ρ2) (hs : (assignEach (e :: es) X.env).map (·.2) = assign e X.env :: (assignEach es X.env).map (·.2) := by rfl) :
    DGs X (is ++ is') (e :: es) (d :: ds) ρ ρ2 := fun B0 B σ H0 H vs Q j rr k => by
  obtain ⟨v, ws, rfl, r1, r2⟩ := rr
  refine ⟨_, pgs_cons pg_star pgs_star hs, v, ws, rfl, h B0 B σ H0 H v _ j r1 fun σ1 j1 k1 => r B0 B σ1 H0 H ws _ j1 r2 fun σ2 j2 k2 => k σ2 j2 fun m hm => ?_⟩
  rw [k2 m (fun z => hm (by simp [z])), k1 m (fun z => hm (by simp [z]))]
theorem dg_tup {is : List Nat} {es : List Expr} {ds : List D} {k1 : Nat} {n : Nat} (hc : X.calm = true) (h : DGs X is es ds ρ ρ') (hl : ds.length = n := by rfl) (hn : (assignEach es X.env).length = n := by rfl) (hst : (assignEach es X.env).findIdx? (·.1) = none := by rfl) :
    DG X is (.Tuple es k1 pos) (.tup ds) ρ ρ' := fun B0 B σ H0 H v Q j r k => by
  obtain ⟨p, vs, rfl, h1, h2⟩ := r
  exact ⟨_, pg_tup hc pgs_star hn hst, p, vs, rfl, Same.seqT j.same h1, by rw [← DRs.length h2]; exact hl, h B0 B σ H0 H vs Q j h2 k⟩
def DWalk (K : PySem.W.Frag) (Jt : It) (H0 : Hp) (ds : List D) : Prop := ∃ G Y, Walk Jt ds.length G Y ∧ (∀ H1 H, Same H0 H1 → Same H1 H → G H) ∧
  ∀ i H1 H x H' d, ds[i]? = some d → Same H0 H1 → Same H1 H → Y i H x H' → ∃ H1', JH H1 H H1' H' ∧ DR K H1' d x
def ID (X : Cx) (ρ : En) (tg iter : Expr) (ds : List D) : Prop := ∀ B0 B σ H0 H R, J X.K B0 B σ H0 H ρ → (∀ Jt H0' H', JH H0 H H0' H' → DWalk X.K Jt H0' ds → R Jt H') → RI X tg iter σ H R
theorem dw_list {K : PySem.W.Frag} {H0 : Hp} {p : Addr} {vs : List V} {ds : List D} (h : SqL K H0 p vs) (r : DRs K H0 ds vs) : DWalk K (Itl K p) H0 ds := by
  refine ⟨_, _, (by rw [DRs.length r]; exact walk_list (xs := vs)), fun H1 H s1 s2 => (s1.trans s2).seq h, fun i H1 H x H' d hd s1 s2 y => ?_⟩
  obtain ⟨rfl, hx⟩ := y
  obtain ⟨v, h1, h2⟩ := DRs.get r hd
  rw [hx] at h1; cases h1
  exact ⟨H1, JH.refl s2, DR.mono s1 _ _ h2⟩
theorem dw_tup {K : PySem.W.Frag} {H0 : Hp} {p : Addr} {vs : List V} {ds : List D} (h : SqT K H0 p vs) (r : DRs K H0 ds vs) : DWalk K (Itt K p) H0 ds := by
  refine ⟨_, _, (by rw [DRs.length r]; exact walk_tup (xs := vs)), fun H1 H s1 s2 => Same.seqT (s1.trans s2) h, fun i H1 H x H' d hd s1 s2 y => ?_⟩
  obtain ⟨rfl, hx⟩ := y
  obtain ⟨v, h1, h2⟩ := DRs.get r hd
  rw [hx] at h1; cases h1
  exact ⟨H1, JH.refl s2, DR.mono s1 _ _ h2⟩
/-- lo, lo + 1, .. -/
def rngD (lo : Int) (n : Nat) : List D := (List.range n).map fun (i : Nat) => D.int (lo + (i : Int))
theorem rngD_len (lo : Int) (n : Nat) : (rngD lo n).length = n := by simp [rngD]
theorem rngD_get {lo : Int} {n i : Nat} {d : D} (h : (rngD lo n)[i]? = some d) : i < n ∧ d = .int (lo + i) := by
  have hi : i < n := by have := (List.getElem?_eq_some_iff.mp h).1; rwa [rngD_len] at this
  refine ⟨hi, ?_⟩
  simp [rngD, List.getElem?_map, List.getElem?_range hi] at h
  exact h.symm
theorem dw_range {K : PySem.W.Frag} {H0 : Hp} {lo : Int} {n : Nat} : DWalk K (Itr lo n) H0 (rngD lo n) := by
  refine ⟨_, _, (by rw [rngD_len]; exact walk_range), fun _ _ _ _ => trivial, fun i H1 H x H' d hd s1 s2 y => ?_⟩
  obtain ⟨rfl, rfl⟩ := y
  obtain ⟨_, rfl⟩ := rngD_get hd
  exact ⟨H1, JH.refl s2, rfl⟩
theorem dw_pair {K : PySem.W.Frag} {Jt : It} {H0 : Hp} {n : Nat} {G : Hp → Prop} {xs ys : Nat → Option V} {ds : List D} {f g : Nat → Option D} (w : Walk Jt n G (YPair xs ys)) (hn : n = ds.length) (hG : ∀ H1 H, Same H0 H1 → Same H1 H → G H)
    (hd : ∀ i d, ds[i]? = some d → ∃ d1 d2, d = .tup [d1, d2] ∧ (∀ v, xs i = some v → DR K H0 d1 v) ∧ ∀ v, ys i = some v → DR K H0 d2 v) : DWalk K Jt H0 ds := by
  subst hn
  refine ⟨_, _, w, hG, fun i H1 H x H' d h s1 s2 y => ?_⟩
  obtain ⟨T, v1, v2, rfl, hT, rfl, hx, hy⟩ := y
  obtain ⟨d1, d2, rfl, q1, q2⟩ := hd i d h
  have g := JH.new (o := .tup [v1, v2]) s2 hT
  exact ⟨_, g, T, [v1, v2], rfl, SqT.of upd_same, v1, [v2], rfl, DR.mono (s1.trans g.s0) _ _ (q1 v1 hx), v2, [], rfl, DR.mono (s1.trans g.s0) _ _ (q2 v2 hy), rfl⟩
theorem id_list {ds : List D} {tg : Expr} (h : ED X ρ e (.lst ds)) : ID X ρ tg e ds := fun B0 B σ H0 H R j k =>
  ⟨_, pi_list pe_star, h B0 B σ H0 H _ j fun v G0 G g r => by
    obtain ⟨p, vs, rfl, h1, h2⟩ := r
    exact ⟨p, rfl, ⟨vs, g.sh.seq h1⟩, k _ G0 G g (dw_list h1 h2)⟩⟩
theorem id_tup {ds : List D} {tg : Expr} (h : ED X ρ e (.tup ds)) : ID X ρ tg e ds := fun B0 B σ H0 H R j k =>
  ⟨_, pi_tup pe_star, h B0 B σ H0 H _ j fun v G0 G g r => by
    obtain ⟨p, vs, rfl, h1, h2⟩ := r
    exact ⟨p, rfl, ⟨vs, Same.seqT g.sh h1⟩, k _ G0 G g (dw_tup h1 h2)⟩⟩
theorem id_range1 {tg : Expr} {p : Pos} {i : Int} (hg : Gl X "range") (hm : X.mg "range" = none) (ha : ED X ρ a (.int i)) (hb : -(2 ^ 62) ≤ i ∧ i < 2 ^ 62) (hs : starEach [a] X.env = [(false, eval a X.env)] := by rfl) (hs2 : starEach [a] X.env = (false, eval a X.env) :: starEach [] X.env := by rfl) :
    ID X ρ tg (.Call (.Name "range" p) [a] [] pos) (rngD 0 i.toNat) := fun B0 B σ H0 H R j k =>
  ⟨_, pi_range1 hg hm pa_star hs, ad_cons (X := X) ha ad_nil hs2 B0 B σ H0 H _ j fun vs G0 G g r => by
    obtain ⟨x, rfl, h⟩ := r.one'
    cases (show x = .int i from h)
    exact ⟨i, rfl, hb.1, hb.2, k _ G0 G g dw_range⟩⟩
def wipeE (ρ : En) : List Nat → En
  | [] => ρ
  | v :: vs => (wipeE ρ vs).set v .no
theorem J.setNo {K : PySem.W.Frag} {B0 B H0 H : Hp} {σ : St} {ρ : En} (j : J K B0 B σ H0 H ρ) (i : Nat) : J K B0 B (σ.set i none) H0 H (ρ.set i .no) := j.setTo (s := .no) True.intro fun a w => w.elim
theorem J.wipe {K : PySem.W.Frag} {B0 B H0 H : Hp} {σ : St} {ρ : En} (j : J K B0 B σ H0 H ρ) : ∀ vs : List Nat, J K B0 B (wipe σ vs) H0 H (wipeE ρ vs)
  | [] => j
  | v :: vs => (J.wipe j vs).setNo v
theorem wipe_at {σ : St} {i : Nat} : ∀ {vs : List Nat}, i ∈ vs → i < σ.length → (wipe σ vs)[i]? = some none
  | v :: vs, h, hl => by
    unfold wipe
    by_cases e : v = i
    · subst e
      rw [List.getElem?_set_self (by rw [wipe_length]; exact hl)]
    · rw [List.getElem?_set_ne e]
      exact wipe_at (by simpa [Ne.symm e] using h) hl
theorem wipe_back {σ σ2 : St} {vs : List Nat} (hl : σ2.length = σ.length) (h : ∀ k, k ∉ vs → σ2[k]? = (wipe σ vs)[k]?) : wipe σ2 vs = wipe σ vs := by
  refine List.ext_getElem? fun k => ?_
  by_cases hk : k ∈ vs
  · by_cases hb : k < σ.length
    · rw [wipe_at hk (by omega), wipe_at hk hb]
    · rw [List.getElem?_eq_none (by rw [wipe_length]; omega), List.getElem?_eq_none (by rw [wipe_length]; omega)]
  · rw [wipe_out hk, h k hk]
def RTs (X : Cx) (ifs : List Expr) : TT := fun σ H Q => ∃ t, PTs X ifs t ∧ t σ H Q
def TDs (X : Cx) (ρ : En) (ifs : List Expr) (b : Bool) : Prop := ∀ B0 B σ H0 H (Q : Bool → Hp → Prop), J X.K B0 B σ H0 H ρ → (∀ H0' H', JH H0 H H0' H' → Q b H') → RTs X ifs σ H Q
theorem tds_nil : TDs X ρ [] true := fun B0 B σ H0 H Q j k => ⟨_, pts_nil, k H0 H (JH.refl j.same)⟩
theorem tds_one {k : Bool} (h : TD X ρ c k) : TDs X ρ [c] k := fun B0 B σ H0 H Q j kk => ⟨_, pts_one pt_star, h B0 B σ H0 H _ j kk⟩
theorem filterMap_take {α β : Type} (g : α → Option β) (ds : List α) (i : Nat) (d : α) (h : ds[i]? = some d) : (ds.take (i + 1)).filterMap g = (ds.take i).filterMap g ++ (g d).toList := by
  rw [List.take_add_one, h, List.filterMap_append]
  cases q : g d <;> simp [List.filterMap_cons, q]
theorem filterMap_len {α β : Type} (g : α → Option β) (ds : List α) (i : Nat) : ((ds.take i).filterMap g).length ≤ i := by
  refine Nat.le_trans (List.length_filterMap_le _ _) ?_
  simp; omega
section
variable {elt tg iter : Expr} {ifs : List Expr} {scope : Scope} {own : List (Str × Nat)} {ds : List D}
/-- one turn of a comprehension, in every block that may be -/
def Turn1 (X : Cx) (ρ : En) (scope : Scope) (vs : List Nat) (tg elt : Expr) (ifs : List Expr) (d : D) (y : Option D) : Prop :=
  ∃ ρ' : En, ρ'.length = ρ.length ∧ ∀ (s : Shared) (H : Hp) (C : Addr) (cl : List (Str × Addr)) (fp : List Addr), DG (X.blk s H scope (compEnvC scope cl C X.env) fp) vs tg d (wipeE ρ vs) ρ' ∧
    (match y with
    | some z => TDs (X.blk s H scope (compEnvC scope cl C X.env) fp) ρ' ifs true ∧ ED (X.blk s H scope (compEnvC scope cl C X.env) fp) ρ' elt z
    | none => TDs (X.blk s H scope (compEnvC scope cl C X.env) fp) ρ' ifs false)
def GB (X : Cx) (scope : Scope) (tg : Expr) : TG := fun v σ H Q => ∀ (s : Shared) (H' : Hp) (C : Addr) (cl : List (Str × Addr)) (fp : List Addr), RG (X.blk s H' scope (compEnvC scope cl C X.env) fp) tg v σ H Q
def TB (X : Cx) (scope : Scope) (ifs : List Expr) : TT := fun σ H Q => ∀ (s : Shared) (H' : Hp) (C : Addr) (cl : List (Str × Addr)) (fp : List Addr), RTs (X.blk s H' scope (compEnvC scope cl C X.env) fp) ifs σ H Q
def EB (X : Cx) (scope : Scope) (elt : Expr) : TE := fun σ H Q => ∀ (s : Shared) (H' : Hp) (C : Addr) (cl : List (Str × Addr)) (fp : List Addr), RE (X.blk s H' scope (compEnvC scope cl C X.env) fp) elt σ H Q
def TLc (X : Cx) (scope : Scope) (own : List (Str × Nat)) (tg elt iter : Expr) (ifs : List Expr) : TE := tLc (RI X tg iter) (GB X scope tg) (TB X scope ifs) (EB X scope elt) (own.map (·.2))
theorem wipeE_length (ρ : En) : ∀ vs : List Nat, (wipeE ρ vs).length = ρ.length
  | [] => rfl
  | v :: vs => by unfold wipeE; rw [List.length_set, wipeE_length ρ vs]
theorem lc_read (hi : ID X ρ tg iter ds) (ys : List (Option D)) (hlen : ys.length = ds.length) (turn : ∀ (i : Nat) d y, ds[i]? = some d → ys[i]? = some y → Turn1 X ρ scope (own.map (·.2)) tg elt ifs d y) (hl : ds.length ≤ sizeLine) {B0 B : Hp} {σ : St} {H0 H : Hp} {Q : VK} (j : J X.K B0 B σ H0 H ρ)
    (k : ∀ a o H0' H', JH H0 H H0' H' → H' a = some o → H0' a = none → H a = none → OCR X.K H0' (.lst (ys.filterMap id)) o → Q (.ref a) H') : TLc X scope own tg elt iter ifs σ H Q := by
  refine hi B0 B σ H0 H _ j fun Jt G0 G g0 ⟨GG, Y, w, hG, hY⟩ => fun Dn hD => ?_
  have j0 := j.grow g0
  refine lc_it (g := GB X scope tg) (tt := TB X scope ifs) (te := EB X scope elt) (vs := own.map (·.2)) (Qd := fun H => Q (.ref Dn) H) w (fun i H1 => ∃ L0 acc, JH G0 G L0 H1 ∧ H1 Dn = some (.lst acc) ∧ L0 Dn = none ∧ DRs X.K L0 ((ys.take i).filterMap id) acc) ⟨G0, [], JH.own g0.sh hD, upd_same, g0.sh.free hD, rfl⟩ (fun i H1 _ ⟨L0, acc, g1, _⟩ => hG L0 H1 g1.s0 g1.sh) ?_ ?_
  · rintro i x H1 H1' hi ⟨L0, acc, g1, hDn, hD0, racc⟩ hy
    obtain ⟨d, hd⟩ : ∃ d, ds[i]? = some d := ⟨ds[i], by simp [hi]⟩
    obtain ⟨L1, g2, rx⟩ := hY i L0 H1 x H1' d hd g1.s0 g1.sh hy
    obtain ⟨yo, hyo⟩ : ∃ y, ys[i]? = some y := ⟨ys[i]'(by omega), by simp [show i < ys.length by omega]⟩
    obtain ⟨ρ', hlen', turn⟩ := turn i d yo hd hyo
    have j1 := ((j0.grow g1).grow g2).wipe (own.map (·.2))
    have hacc : acc.length < sizeLine := by
      have h1 := DRs.length racc
      have h2 := filterMap_len id ys i
      omega
    intro s Hs C cl fp
    refine (turn s Hs C cl fp).1 B0 B _ L1 H1' x _ j1 rx fun σ2 j2 off => ⟨wipe_back (by rw [j2.len, hlen', ← wipeE_length ρ (own.map (·.2)), ← j1.len, wipe_length]) off, ?_⟩
    have gg := g1.trans g2
    have hDn' : H1' Dn = some (.lst acc) := g2.sB _ _ hDn
    have hD0' : L1 Dn = none := g2.fr _ _ hDn trivial hD0
    have eT := filterMap_take id ys i yo hyo
    cases yo with
    | none =>
      intro s Hs C cl fp
      have t2 := (turn s Hs C cl fp).2
      refine t2 B0 B σ2 L1 H1' _ j2 fun M0 M g3 => iteF ⟨M0, acc, gg.trans g3, g3.sB _ _ hDn', g3.fr _ _ hDn' trivial hD0', ?_⟩
      rw [eT]
      simpa using DRs.mono (g2.trans g3).s0 _ _ racc
    | some z =>
      intro s Hs C cl fp
      have t2 := (turn s Hs C cl fp).2
      refine t2.1 B0 B σ2 L1 H1' _ j2 fun M0 M g3 => iteT fun s Hs C cl fp => ?_
      have t3 := (turn s Hs C cl fp).2
      refine t3.2 B0 B σ2 M0 M _ (j2.grow g3) fun y N0 N g4 ry => ?_
      have g34 := g3.trans g4
      have h4 : N Dn = some (.lst acc) := g34.sB _ _ hDn'
      have h40 : N0 Dn = none := g34.fr _ _ hDn' trivial hD0'
      have gl := gg.trans g34
      refine ⟨acc, h4, hacc, N0, acc ++ [y], ⟨gl.s0, fun b u e => upd_keep (gl.sh b u e) (ne_of_none e h40), fun b u e => upd_keep (gl.sB b u e) (ne_of_none e hD), gl.fr⟩, upd_same, h40, ?_⟩
      rw [eT]
      exact DRs.app (DRs.mono (g2.trans g34).s0 _ _ racc) (DRs.one ry)
  · rintro H1 ⟨L0, acc, g1, hDn, hD0, racc⟩
    rw [List.take_of_length_le (Nat.le_of_eq hlen)] at racc
    exact k Dn _ L0 H1 (g0.trans g1) hDn hD0 (g0.sB.free hD) ⟨acc, rfl, racc⟩
variable {cpos : Pos}
theorem eo_lc (own : List (Str × Nat)) (hc : X.calm = true) (hN : X.N.Nodup) (ok : BlkOk X.N X.env.scope scope own) (hi : ID X ρ tg iter ds) (ys : List (Option D)) (hlen : ys.length = ds.length) (turn : ∀ (i : Nat) d y, ds[i]? = some d → ys[i]? = some y → Turn1 X ρ scope (own.map (·.2)) tg elt ifs d y) (hl : ds.length ≤ sizeLine)
    (hs : ∀ x, foldedSetIterable iter X.env x = pure x := by intro _; rfl) : EO X ρ (.ListComp elt [⟨tg, iter, ifs, 0⟩] scope cpos) (.lst (ys.filterMap id)) := fun B0 B σ H0 H Q j k =>
  RE.of (pe_lc hc hN pi_star ok (g := GB X scope tg) (tt := TB X scope ifs) (te := EB X scope elt)
    (fun s H C cl fp => ⟨fun pins s1 σ1 H1 v u Q1 I r h => (pg_star (tg := tg)).run pins s1 σ1 H1 v u Q1 I r (h s H C cl fp)⟩)
    (fun s H C cl fp => ⟨fun pins s1 σ1 H1 Q1 I h => by obtain ⟨t, h1, h2⟩ := h s H C cl fp; exact h1.run pins s1 σ1 H1 Q1 I h2⟩)
    (fun s H C cl fp => ⟨fun pins s1 σ1 H1 Q1 I h => (pe_star (e := elt)).run pins s1 σ1 H1 Q1 I (h s H C cl fp)⟩) hs) (lc_read hi ys hlen turn hl j k)
end
inductive Out where
  | nx (ρ : En) | bk (ρ : En) | ct (ρ : En) | rt (d : D)
  /-- .. with what was its own -/
  | ro (c : OC)
  /-- .. with what it was lent -/
  | rc (d : D) (cs : List (Addr × OC))
def Post (K : PySem.W.Frag) (B0 B : Hp) (Dn : Ends) : Out → Prop
  | .nx ρ => ∀ σ H0 H, J K B0 B σ H0 H ρ → Dn.nx σ H
  | .bk ρ => ∀ σ H0 H, J K B0 B σ H0 H ρ → Dn.bk σ H
  | .ct ρ => ∀ σ H0 H, J K B0 B σ H0 H ρ → Dn.ct σ H
  | .rt d => ∀ v H0 H, JH B0 B H0 H → DR K H0 d v → Dn.rt v H
  | .ro c => ∀ a o H0 H, JH B0 B H0 H → H a = some o → H0 a = none → B a = none → OCR K H0 c o → Dn.rt (.ref a) H
  | .rc d cs => ∀ v H0 H, JH B0 B H0 H → (∀ p ∈ cs, CellR K B H0 H p.1 p.2) → (cs.map (·.1)).Nodup → DR K H0 d v → Dn.rt v H
def WS (X : Cx) (st : Stmt) (ρ : En) (Φ : Out → Prop) : Prop := ∀ B0 B σ H0 H Dn, J X.K B0 B σ H0 H ρ → (∀ o, Φ o → Post X.K B0 B Dn o) → RS X st Dn σ H
def WSs (X : Cx) (sts : List Stmt) (ρ : En) (Φ : Out → Prop) : Prop := ∀ B0 B σ H0 H Dn, J X.K B0 B σ H0 H ρ → (∀ o, Φ o → Post X.K B0 B Dn o) → RSs X sts Dn σ H
/-- what is wanted of a statement that others follow -/
def Then (X : Cx) (rest : List Stmt) (Φ : Out → Prop) : Out → Prop
  | .nx ρ => WSs X rest ρ Φ
  | o => Φ o
variable {st : Stmt} {rest : List Stmt} {Φ : Out → Prop}
theorem ws_nil (h : Φ (.nx ρ)) : WSs X [] ρ Φ := fun B0 B σ H0 H Dn j k => ⟨_, pss_nil, k _ h σ H0 H j⟩
theorem ws_cons (h : WS X st ρ (Then X rest Φ)) : WSs X (st :: rest) ρ Φ := fun B0 B σ H0 H Dn j k => by
  refine ⟨_, pss_cons ps_star pss_star, h B0 B σ H0 H _ j fun o ho => ?_⟩
  cases o with
  | nx ρ' => exact fun σ' H0' H' j' => ho B0 B σ' H0' H' Dn j' k
  | bk ρ' => exact k _ ho
  | ct ρ' => exact k _ ho
  | rt d => exact k _ ho
  | ro c => exact k _ ho
  | rc d cs => exact k _ ho
theorem ws_mono {Ψ : Out → Prop} (h : WSs X rest ρ Ψ) (k : ∀ o, Ψ o → Φ o) : WSs X rest ρ Φ := fun B0 B σ H0 H Dn j kk => h B0 B σ H0 H Dn j fun o ho => kk o (k o ho)
/-- what a slot owns is given to all -/
theorem ws_share (i : Nat) {c : OC} (hi : ρ[i]? = some (.ow c)) (h : WSs X rest (ρ.set i (.sh c.d)) Φ) : WSs X rest ρ Φ := fun B0 B σ H0 H Dn j k => by
  obtain ⟨H0', j', _⟩ := j.share hi
  exact h B0 B σ H0' H Dn j' k
theorem ws_ret (h : ED X ρ e d) (hΦ : Φ (.rt d)) : WS X (.Return (some e) pos) ρ Φ := fun B0 B σ H0 H Dn j k =>
  ⟨_, ps_ret pe_star, h B0 B σ H0 H _ j fun v H0' H' g r => k _ hΦ v H0' H' (j.hp.trans g) r⟩
theorem ws_if {k : Bool} {sa sb : List Stmt} (hc : TD X ρ c k) (h1 : k = true → WSs X sa ρ Φ) (h2 : k = false → WSs X sb ρ Φ) : WS X (.If c sa sb pos) ρ Φ := fun B0 B σ H0 H Dn j kk => by
  refine ⟨_, ps_if pt_star pss_star pss_star, hc B0 B σ H0 H _ j fun H0' H' g => ?_⟩
  cases k with
  | true => exact iteT (h1 rfl B0 B σ H0' H' Dn (j.grow g) kk)
  | false => exact iteF (h2 rfl B0 B σ H0' H' Dn (j.grow g) kk)
theorem ws_set (i : Nat) {x : Str} {pos' : Pos} (hN : X.N.Nodup) (he : ED X ρ e d) (hΦ : Φ (.nx (ρ.set i (.sh d)))) (hi : X.N[i]? = some x := by rfl) (hx : Loc X.env.scope x := by first | exact Or.inl rfl | exact Or.inr rfl)
    (hs : swapsWith e (some (.Name x pos')) pos.line X.env = pure false := by rfl) (hf : X.fn x = true ∨ X.env.scope.names.lookup x = some .local := by first | exact .inl rfl | exact .inr rfl) : WS X (.Assign [.Name x pos'] e pos) ρ Φ := fun B0 B σ H0 H Dn j k =>
  ⟨_, ps_set hN hi hx pe_star hs hf, he B0 B σ H0 H _ j fun v H0' H' g r => k _ hΦ _ H0' H' ((j.grow g).setSh r)⟩
theorem J.setNew {K : PySem.W.Frag} {B0 B H0 H H0' H' : Hp} {σ : St} {ρ : En} (j : J K B0 B σ H0 H ρ) (g : JH H0 H H0' H') {i : Nat} {c : OC} {a : Addr} {o : HO} (h : H' a = some o) (h0 : H0' a = none) (n : H a = none) (r : OCR K H0' c o) :
    J K B0 B (σ.set i (some (.ref a))) H0' H' (ρ.set i (.ow c)) :=
  (j.grow g).setOwn h h0 (j.hp.sB.free n) (fun m s ov _ hm hs w => by
    obtain ⟨o', h1, _⟩ := j.own hm hs w
    rw [n] at h1; cases h1) r
theorem ws_setO (i : Nat) {x : Str} {c : OC} {pos' : Pos} (hN : X.N.Nodup) (he : EO X ρ e c) (hΦ : Φ (.nx (ρ.set i (.ow c)))) (hi : X.N[i]? = some x := by rfl) (hx : Loc X.env.scope x := by first | exact Or.inl rfl | exact Or.inr rfl)
    (hs : swapsWith e (some (.Name x pos')) pos.line X.env = pure false := by rfl) (hf : X.fn x = true ∨ X.env.scope.names.lookup x = some .local := by first | exact .inl rfl | exact .inr rfl) : WS X (.Assign [.Name x pos'] e pos) ρ Φ := fun B0 B σ H0 H Dn j k =>
  ⟨_, ps_set hN hi hx pe_star hs hf, he B0 B σ H0 H _ j fun a o H0' H' g h1 h2 h3 r => k _ hΦ _ H0' H' (j.setNew g h1 h2 h3 r)⟩
section
variable {elt tg iter : Expr} {ifs : List Expr} {scope : Scope} {ds : List D} {cpos : Pos}
/-- y = [.. for ..], y a local of the def's own on the same line -/
theorem ws_setLc (i : Nat) (own : List (Str × Nat)) {y : Str} {py : Pos} (hc : X.calm = true) (hN : X.N.Nodup) (ok : BlkOk X.N X.env.scope scope own) (hi : ID X ρ tg iter ds) (ys : List (Option D)) (hlen : ys.length = ds.length) (turn : ∀ (i : Nat) d y, ds[i]? = some d → ys[i]? = some y → Turn1 X ρ scope (own.map (·.2)) tg elt ifs d y) (hl : ds.length ≤ sizeLine)
    (hΦ : Φ (.nx (ρ.set i (.ow (.lst (ys.filterMap id)))))) (hy : X.N[i]? = some y := by rfl) (hyl : X.env.scope.names.lookup y = some .local := by rfl)
    (hsw : swapsWith (.ListComp elt [⟨tg, iter, ifs, 0⟩] scope cpos) (some (.Name y py)) pos.line X.env = pure true := by exact sw_true rfl rfl rfl (by decide +kernel)) (hs : ∀ x, foldedSetIterable iter X.env x = pure x := by intro _; rfl) :
    WS X (.Assign [.Name y py] (.ListComp elt [⟨tg, iter, ifs, 0⟩] scope cpos) pos) ρ Φ := fun B0 B σ H0 H Dn j k =>
  ⟨_, ps_setLc hc hN hy hyl hsw pi_star ok (g := GB X scope tg) (tt := TB X scope ifs) (te := EB X scope elt)
    (fun s H C cl fp => ⟨fun pins s1 σ1 H1 v u Q1 I r h => (pg_star (tg := tg)).run pins s1 σ1 H1 v u Q1 I r (h s H C cl fp)⟩)
    (fun s H C cl fp => ⟨fun pins s1 σ1 H1 Q1 I h => by obtain ⟨t, h1, h2⟩ := h s H C cl fp; exact h1.run pins s1 σ1 H1 Q1 I h2⟩)
    (fun s H C cl fp => ⟨fun pins s1 σ1 H1 Q1 I h => (pe_star (e := elt)).run pins s1 σ1 H1 Q1 I (h s H C cl fp)⟩) hs,
   lc_read hi ys hlen turn hl j fun a o H0' H' gg h1 h2 h3 r => k _ hΦ _ H0' H' (j.setNew gg h1 h2 h3 r)⟩
end
/-- a, b, .. = e -/
theorem ws_unpack {tg : Expr} {is : List Nat} (he : ED X ρ e d) (hg : DG X is tg d ρ ρ') (hΦ : Φ (.nx ρ')) (hs : swapsWithSole [tg] e pos.line X.env = pure false := by rfl) (hw : swappedStores [tg] e X.env = pure none := by rfl)
    (h1 : (assignEach [tg] X.env).map (·.2) = [assign tg X.env] := by rfl) : WS X (.Assign [tg] e pos) ρ Φ := fun B0 B σ H0 H Dn j k =>
  ⟨_, ps_asg pe_star pg_star hs hw h1, he B0 B σ H0 H _ j fun v H0' H' g r => hg B0 B σ H0' H' v _ (j.grow g) r fun σ' j' _ => k _ hΦ σ' H0' H' j'⟩
/-- xs.append(e), xs a list of the def's own -/
theorem ws_append (i : Nat) {x : Str} {p1 p2 p3 : Pos} {ds : List D} (hi : ρ[i]? = some (.ow (.lst ds))) (he : ED X ρ e d) (hl : ds.length < sizeLine) (hΦ : Φ (.nx (ρ.set i (.ow (.lst (ds ++ [d]))))))
    (hpe : ∀ {ta : TA}, PA X [e] ta → PS X (.Expr (.Call (.Attribute (.Name x p1) "append" p2) [e] [] p3) pos) (tDrop (tBM X.K "list" rAppend (tVar i) ta))) (hs : starEach [e] X.env = (false, eval e X.env) :: starEach [] X.env := by rfl) :
    WS X (.Expr (.Call (.Attribute (.Name x p1) "append" p2) [e] [] p3) pos) ρ Φ := fun B0 B σ H0 H Dn j k => by
  obtain ⟨ov, e1, a, o, rfl, h1, h2, h3, vs, rfl, r⟩ := j.get hi
  refine ⟨_, hpe pa_star, .ref a, e1, Or.inl ⟨rfl, _, Or.inl (Or.inl h1)⟩, ad_cons (X := X) he ad_nil hs B0 B σ H0 H _ j fun ws G0 G g rr => ?_⟩
  obtain ⟨y, rfl, ry⟩ := rr.one'
  have j1 := j.grow g
  obtain ⟨ov', e1', a', o', e2, h1', _, _, vs', rfl, r'⟩ := j1.get hi
  rw [e1] at e1'; cases e1'; cases e2
  refine ⟨a, vs', y, rfl, rfl, h1', by rw [← DRs.length r']; exact hl, ?_⟩
  exact k _ hΦ _ G0 _ (j1.write hi e1 ⟨_, rfl, DRs.app r' (DRs.one ry)⟩)
/-- for: I by the turn and the slots -/
theorem ws_for {tg iter : Expr} {body : List Stmt} {ds : List D} (hc : X.calm = true) (hi : ID X ρ tg iter ds) (I : Nat → En → Prop) (h0 : I 0 ρ)
    (hs : ∀ i d ρ', ds[i]? = some d → I i ρ' → ∃ is ρ'', DG X is tg d ρ' ρ'' ∧ WSs X body ρ'' (fun o => match o with | .nx r => I (i + 1) r | .ct r => I (i + 1) r | .bk r => Φ (.nx r) | .rt v => Φ (.rt v) | .ro c => Φ (.ro c) | .rc v cs => Φ (.rc v cs))) (hd : ∀ ρ', I ds.length ρ' → Φ (.nx ρ'))
    (hp : PassesOwn (model X.prog X.w) X.A X.env X.xe := by exact PassesOwn.never) (hf : ∀ x, foldedSetIterable iter X.env x = pure x := by intro _; rfl) : WS X (.For tg iter body [] pos) ρ Φ := fun B0 B σ H0 H Dn j k => by
  refine ⟨_, ps_for hp hc pi_star pg_star pss_star hf, hi B0 B σ H0 H _ j fun Jt G0 G g0 ⟨GG, Y, w, hG, hY⟩ => ?_⟩
  have j0 := j.grow g0
  refine for_it w (fun i σ' H1 => ∃ ρ' L0, I i ρ' ∧ J X.K G0 B σ' L0 H1 ρ') ⟨ρ, G0, h0, j0.rebase⟩ (fun i σ' H1 _ ⟨ρ', L0, _, j1⟩ => hG L0 H1 j1.hp.s0 j1.hp.sh) ?_ ?_
  · rintro i x σ1 H1 H1' hi ⟨ρ1, L0, hI, j1⟩ hy
    obtain ⟨d, hd'⟩ : ∃ d, ds[i]? = some d := ⟨ds[i], by simp [hi]⟩
    obtain ⟨L1, g2, rx⟩ := hY i L0 H1 x H1' d hd' j1.hp.s0 j1.hp.sh hy
    obtain ⟨is, ρ2, hg, hb⟩ := hs i d ρ1 hd' hI
    refine hg G0 B σ1 L1 H1' x _ (j1.grow g2) rx fun σ2 j2 _ => ?_
    refine hb G0 B σ2 L1 H1' _ j2 fun o ho => ?_
    cases o with
    | nx r => exact fun σ3 M0 M j3 => ⟨r, M0, ho, j3⟩
    | ct r => exact fun σ3 M0 M j3 => ⟨r, M0, ho, j3⟩
    | bk r => exact fun σ3 M0 M j3 => k _ ho σ3 M0 M (j0.unbase j3)
    | rt v => exact fun v' M0 M g r => k _ ho v' M0 M ⟨j0.hp.s0.trans g.s0, g.sh, g.sB, fun b u e n e' => g.fr b u e n (j0.hp.fr b u e n e')⟩ r
    | ro c => exact fun a o M0 M g h1 h2 h3 r => k _ ho a o M0 M ⟨j0.hp.s0.trans g.s0, g.sh, g.sB, fun b u e n e' => g.fr b u e n (j0.hp.fr b u e n e')⟩ h1 h2 h3 r
    | rc v cs => exact fun a M0 M g h1 h2 r => k _ ho a M0 M ⟨j0.hp.s0.trans g.s0, g.sh, g.sB, fun b u e n e' => g.fr b u e n (j0.hp.fr b u e n e')⟩ h1 h2 r
  · rintro σ1 H1 ⟨ρ1, L0, hI, j1⟩
    exact k _ (hd ρ1 hI) σ1 L0 H1 (j0.unbase j1)
end
end DL
namespace DL
open PySem PySem.Spec PyProof.Rows L2
def en (N : List Str) (ds : List D) : En := ds.map Sl.sh ++ List.replicate (N.length - ds.length) Sl.no
section
variable {P : Program} {w : World} {K : PySem.W.Frag} {mg : Str → Option Value} {base : Heap}
theorem en_kind {N : List Str} {ds : List D} {i : Nat} {s : Sl} (h : (en N ds)[i]? = some s) : s = .no ∨ ∃ d, s = .sh d := by
  unfold en at h
  by_cases hi : i < ds.length
  · rw [List.getElem?_append_left (by simpa using hi), List.getElem?_map, show ds[i]? = some ds[i] by simp [hi]] at h
    cases h; exact .inr ⟨_, rfl⟩
  · rw [List.getElem?_append_right (by simp; omega), List.getElem?_replicate] at h
    split at h
    · cases h; exact .inl rfl
    · cases h
theorem j_start {N : List Str} {H0 H : Hp} {ds : List D} {vs : List V} (s : Same H0 H) (r : DRs K H0 ds vs) (hl : ds.length ≤ N.length) : J K H0 H (L2.start N vs) H0 H (en N ds) := by
  have hlen := DRs.length r
  refine ⟨JH.refl s, by simp [L2.start, en, hlen], fun i sl ov h1 h2 => ?_, fun i j s1 s2 o1 o2 a h1 _ _ _ w _ => absurd w (Owns.none (en_kind h1) a)⟩
  unfold en at h1
  unfold L2.start at h2
  by_cases hi : i < ds.length
  · rw [List.getElem?_append_left (by simpa using hi), List.getElem?_map] at h1
    rw [List.getElem?_append_left (by simp; omega), List.getElem?_map] at h2
    obtain ⟨v, e1, e2⟩ := DRs.get r (show ds[i]? = some ds[i] by simp [hi])
    rw [show ds[i]? = some ds[i] by simp [hi]] at h1
    rw [e1] at h2
    cases h1; cases h2
    exact ⟨v, rfl, e2⟩
  · rw [List.getElem?_append_right (by simp; omega), List.getElem?_replicate] at h1
    split at h1
    · cases h1; trivial
    · cases h1
/-- the context of a def's body -/
abbrev bx (P : Program) (w : World) (K : PySem.W.Frag) (mg : Str → Option Value) (base : Heap) (N : List Str) (qual : Str) (st : Stmt) (f : Addr) (cdv : Value) (A : Around) (outer : List Env) (s : Shared) (H : Hp) (E : XK) : Cx :=
  (cxOf CX0 P w K mg base N qual (defScope st) f cdv A outer s H E).nox
theorem fn_ok {x qual : Str} {st : Stmt} {f : Addr} {fd : FuncData} {N ps : List Str} {k : Nat} {R : List D → D → Prop} (F : Fun K x qual st f fd) (S : FnScope N ps (defScope st)) (hR : ∀ ds d, R ds d → ds.length = ps.length)
    (h : ∀ ds d, R ds d → ∀ (cdv : Value) (A : Around) (outer : List Env) (s : Shared) (H : Hp) (E : XK), Room k (A.deeper (envOfC qual (defScope st) s.heap.objs.size f cdv)) →
      WSs (bx P w K mg base N qual st f cdv A outer s H E) (defBody st) (en N ds) (fun o => o = .rt d ∨ (∃ ρ, o = .nx ρ ∧ d = .non))) : FnOk P w K mg base CX0 (k + 1) f fd ps (spR K R) := by
  refine F.ok S (fun vs H Q E hs => ?_) fun cdv A outer s H vs Q E hr hs => ?_
  · obtain ⟨H0, ds, d, _, r, q, _⟩ := hs
    rw [← DRs.length r]; exact hR ds d q
  · obtain ⟨H0, ds, d, s0, r, q, kk⟩ := hs
    have hN : ds.length ≤ N.length := by
      have h1 := hR ds d q
      have h2 := congrArg List.length S.pre
      rw [List.length_take] at h2
      omega
    obtain ⟨t, h1, h2⟩ := h ds d q cdv A outer s H E hr H0 H (L2.start N vs) H0 H (j_start s0 r hN) (Dn := { nx := fun _ H' => Q .non H', rt := Q }) fun o ho => by
      rcases ho with rfl | ⟨ρ, rfl, rfl⟩
      · exact fun v G0 G g rv => kk v G0 G g rv
      · exact fun σ G0 G j => kk .non G0 G j.hp rfl
    exact ⟨t, h1, h2⟩
/-- what a law promises -/
inductive RLaw : List D → D → Prop where
  | mk (ns : List Int) (h : ns.length ≤ 63) : RLaw [.lst (ns.map .int)] (.bl true)
def spLaw (K : PySem.W.Frag) : Sp := fun vs H Q _ => ∃ (a : Addr) (ns : List Int), vs = [.ref a] ∧ SqL K H a (ns.map V.int) ∧ ns.length ≤ 63 ∧ ∀ H', Q (.bl true) H'
theorem law_sp {k : Nat} {f : Addr} {fd : FuncData} {ps : List Str} (F : FnOk P w K mg base CX0 k f fd ps (spR K RLaw)) : FnOk P w K mg base CX0 k f fd ps (spLaw K) :=
  F.imp fun vs H Q E ⟨a, ns, e, hS, hl, q⟩ => ⟨H, [.lst (ns.map .int)], .bl true, Same.refl H, by rw [e]; exact ⟨.ref a, [], rfl, ⟨a, _, rfl, hS, DRs.ofInts ns⟩, rfl⟩, ⟨ns, hl⟩, fun r H0' H' g rr => by
    cases (show r = .bl true from rr); exact q H'⟩
theorem walk_law {l : PySem.W.OpenLaw} {q : Program} {loose : List Str} {XP : (Str → Option Value) → Heap → Prop} {YP : World → Heap → Prop} {d : DefRec} {K : Params → PySem.W.Frag} {k : Nat} (hn : l.most = some 63) (hr : Room k callerA) (hdf : d.params.defaults = [])
    (hY : ∀ (w : World) (h : Heap), YP w h → (K w.params).In h)
    (F : ∀ (w : World) (mg : Str → Option Value) (fa : Addr) (h : Heap), (K w.params).In h → h.Ns mainGlobals mg → mg d.name = some (.ref fa) →
      ∃ fd : FuncData, (∀ (s : Shared) (u : Value), BindsTo s fd ⟨[u], []⟩ [("script", u)]) ∧ ∀ base : Heap, (K w.params).In base → base.Ns mainGlobals mg → FnOk l.prog w (K w.params) mg base CX0 k fa fd ["script"] (spR (K w.params) RLaw)) :
    PySem.W.WalkO q loose XP YP l.row.toRowW d [] (fun f vs => PySem.call f vs) :=
  L2.walk_of (n := 63) (k := k) (x := "script") (CX := fun _ => CX0) (sp := fun w => spLaw (K w.params)) hn (by decide) hdf hr hY
    (fun w mg fa h KX G e => let ⟨fd, h1, h2⟩ := F w mg fa h KX G e; ⟨fd, h1, fun base b1 b2 => law_sp (h2 base b1 b2)⟩) (fun _ _ a ns hl _ hS => ⟨a, ns, rfl, hS, hl, fun _ => rfl⟩) fun _ _ _ _ _ z => z
end
section
variable {X : Cx} {ρ : En}
/-- an item of a list, a tuple, a text -/
inductive IX : D → D → D → Prop where
  | t {ds i d} (h : atI ds i = some d) : IX (.tup ds) (.int i) d
  | l {ds i d} (h : atI ds i = some d) : IX (.lst ds) (.int i) d
theorem IX.t0 {a r} : IX (.tup (a :: r)) (.int 0) a := .t (by unfold atI ixN; simp only [List.length_cons]; rw [if_pos (by decide), if_pos (by omega)]; rfl)
theorem IX.t1 {a b r} : IX (.tup (a :: b :: r)) (.int 1) b := .t (by unfold atI ixN; simp only [List.length_cons]; rw [if_pos (by decide), if_pos (by omega)]; rfl)
theorem IX.t2 {a b c r} : IX (.tup (a :: b :: c :: r)) (.int 2) c := .t (by unfold atI ixN; simp only [List.length_cons]; rw [if_pos (by decide), if_pos (by omega)]; rfl)
theorem IX.t3 {a b c d r} : IX (.tup (a :: b :: c :: d :: r)) (.int 3) d := .t (by unfold atI ixN; simp only [List.length_cons]; rw [if_pos (by decide), if_pos (by omega)]; rfl)
theorem IX.t4 {a b c d e r} : IX (.tup (a :: b :: c :: d :: e :: r)) (.int 4) e := .t (by unfold atI ixN; simp only [List.length_cons]; rw [if_pos (by decide), if_pos (by omega)]; rfl)
theorem IX.t5 {a b c d e f r} : IX (.tup (a :: b :: c :: d :: e :: f :: r)) (.int 5) f := .t (by unfold atI ixN; simp only [List.length_cons]; rw [if_pos (by decide), if_pos (by omega)]; rfl)
theorem IX.l0 {a r} : IX (.lst (a :: r)) (.int 0) a := .l (by unfold atI ixN; simp only [List.length_cons]; rw [if_pos (by decide), if_pos (by omega)]; rfl)
theorem IX.l1 {a b r} : IX (.lst (a :: b :: r)) (.int 1) b := .l (by unfold atI ixN; simp only [List.length_cons]; rw [if_pos (by decide), if_pos (by omega)]; rfl)
theorem IX.l2 {a b c r} : IX (.lst (a :: b :: c :: r)) (.int 2) c := .l (by unfold atI ixN; simp only [List.length_cons]; rw [if_pos (by decide), if_pos (by omega)]; rfl)
theorem ed_ix {a b : Expr} {d1 d2 d : D} {pos : Pos} (ha : ED X ρ a d1) (hb : ED X ρ b d2) (h : IX d1 d2 d) (hs : PlainIx b := by exact fun _ _ => rfl) : ED X ρ (.Subscript a b pos) d := by
  cases h with
  | t h => exact ix_t ha hb h hs
  | l h => exact ix_l ha hb h hs
theorem atI_nn {α : Type} {xs : List α} {i : Int} {v : α} (h0 : 0 ≤ i) (h : xs[i.toNat]? = some v) : atI xs i = some v := by
  have e : ((i.toNat : Nat) : Int) = i := Int.toNat_of_nonneg h0
  rw [← e]; exact atI_nat h
/-- isinstance of a built-in class -/
def tyD : D → Option String
  | .non => some "NoneType" | .bl _ => some "bool" | .int _ => some "int" | .str _ => some "str"
  | .lst _ => some "list" | .tup _ => some "tuple" | .dk _ _ => some "dict" | .dt _ _ => none | .obj _ _ _ => none | .ad _ => none | .ptp _ => none | .etp _ => none | .exc _ _ _ _ => none | .ty _ => none
theorem tyx_of {K : PySem.W.Frag} {H : Hp} {d : D} {v : V} {n : String} (h : DR K H d v) (hn : tyD d = some n) (hnn : n ≠ "NoneType") : TyX K H v (.type n) := by
  cases d with
  | non => cases hn; exact absurd rfl hnn
  | bl _ => cases (show v = .bl _ from h); cases hn; exact .base (.bl _)
  | int _ => cases (show v = .int _ from h); cases hn; exact .base (.int _)
  | str _ => cases (show v = .str _ from h); cases hn; exact .base (.str _)
  | lst _ =>
    obtain ⟨a, vs, rfl, h1, _⟩ := h
    cases hn
    rcases h1 with (h1 | ⟨o, h1⟩) | ⟨o, its, n, h1, h2, _⟩
    · exact .base (.lst h1)
    · exact .base (.frz h1)
    · exact .kList h1 h2
  | tup _ =>
    obtain ⟨a, vs, rfl, h1, _⟩ := h
    cases hn
    rcases h1 with (h1 | ⟨o, h1⟩) | ⟨o, its, n, h1, h2, _⟩
    · exact .base (.tup h1)
    · exact .fTuple h1
    · exact .kTuple h1 h2
  | dk _ _ =>
    obtain ⟨a, vs, rfl, h1, _⟩ := h
    cases hn
    rcases h1 with h1 | ⟨o, h1⟩
    · exact .base (.dK h1)
    · exact .fDict h1
  | dt _ _ => cases hn
  | obj _ _ _ => cases hn
  | ad _ => cases hn
  | ptp _ => cases hn
  | etp _ => cases hn
  | exc _ _ _ _ => cases hn
  | ty _ => cases hn
theorem bc_isi {d : D} {n c : String} {b : Bool} (hn : tyD d = some n) (h : kitB n c = some b) (hnn : n ≠ "NoneType" := by decide) : BC X (.builtin "isinstance") [d, .ty c] (.bl b) :=
  bc_keep call_isi _ (fun _ => rfl) fun H0 H vs _ s r q => by
    obtain ⟨x, y, rfl, h1, h2⟩ := r.two
    cases (show y = .ty c from h2)
    exact ⟨x, .ty c, .type n, .type c, b, rfl, .ty c, tyx_of (DR.mono s _ _ h1) hn hnn, kit_ty h, q⟩
theorem ed_ty {x : Str} {n : String} {pos : Pos} (hg : Gl X x) (hm : X.mg x = none) (hv : bootBuiltins x = some (.type n)) (hn : x ≠ "__name__" := by decide) (hd : (x == ("__debug__" : Str)) = false := by decide) : ED X ρ (.Name x pos) (.ty n) :=
  fun B0 B σ H0 H Q j k => RE.of (pe_bltn (v := .ty n) hg hm hv rfl hn hd) (k _ H0 H (JH.refl j.same) rfl)
theorem filterMap_some {α β : Type} (f : α → β) : ∀ xs : List α, (xs.map fun x => some (f x)).filterMap id = xs.map f
  | [] => rfl
  | x :: xs => by simp [filterMap_some f xs]
theorem filterMap_if {α β : Type} (p : α → Bool) (f : α → β) : ∀ xs : List α, (xs.map fun x => if p x = true then some (f x) else none).filterMap id = (xs.filter p).map f
  | [] => rfl
  | x :: xs => by
    have ih := filterMap_if p f xs
    by_cases h : p x = true
    · simp only [List.map_cons, if_pos h, List.filter_cons_of_pos h, List.filterMap_cons, id, ih]
    · simp only [List.map_cons, if_neg h, List.filter_cons_of_neg h, List.filterMap_cons, id, ih]
section
variable {elt tg iter : Expr} {ifs : List Expr} {scope : Scope} {ds : List D} {cpos pos : Pos} {α β : Type} {Φ : Out → Prop}
theorem turns_map {own : List (Str × Nat)} {xs : List α} {enc : α → D} {f : α → D} (he : ds = xs.map enc) (turn : ∀ x ∈ xs, Turn1 X ρ scope (own.map (·.2)) tg elt ifs (enc x) (some (f x))) :
    ∀ (i : Nat) d y, ds[i]? = some d → (xs.map fun x => some (f x))[i]? = some y → Turn1 X ρ scope (own.map (·.2)) tg elt ifs d y := by
  subst he
  intro i d y h1 h2
  rw [List.getElem?_map] at h1 h2
  cases q : xs[i]? with
  | none => rw [q] at h1; cases h1
  | some x =>
    rw [q] at h1 h2
    cases h1; cases h2
    exact turn x (List.mem_of_getElem? q)
theorem turns_if {own : List (Str × Nat)} {xs : List α} {enc : α → D} {p : α → Bool} {f : α → D} (he : ds = xs.map enc) (turn : ∀ x ∈ xs, Turn1 X ρ scope (own.map (·.2)) tg elt ifs (enc x) (if p x = true then some (f x) else none)) :
    ∀ (i : Nat) d y, ds[i]? = some d → (xs.map fun x => if p x = true then some (f x) else none)[i]? = some y → Turn1 X ρ scope (own.map (·.2)) tg elt ifs d y := by
  subst he
  intro i d y h1 h2
  rw [List.getElem?_map] at h1 h2
  cases q : xs[i]? with
  | none => rw [q] at h1; cases h1
  | some x =>
    rw [q] at h1 h2
    cases h1; cases h2
    exact turn x (List.mem_of_getElem? q)
/-- [f x for x in xs] -/
theorem eo_map (own : List (Str × Nat)) (xs : List α) (enc : α → D) (f : α → D) (hc : X.calm = true) (hN : X.N.Nodup) (ok : BlkOk X.N X.env.scope scope own) (hi : ID X ρ tg iter ds) (he : ds = xs.map enc) (turn : ∀ x ∈ xs, Turn1 X ρ scope (own.map (·.2)) tg elt ifs (enc x) (some (f x))) (hl : xs.length ≤ sizeLine)
    (hs : ∀ x, foldedSetIterable iter X.env x = pure x := by intro _; rfl) : EO X ρ (.ListComp elt [⟨tg, iter, ifs, 0⟩] scope cpos) (.lst (xs.map f)) := by
  have h := eo_lc (cpos := cpos) own hc hN ok hi (xs.map fun x => some (f x)) (by rw [he]; simp) (turns_map he turn) (by rw [he]; simpa using hl) hs
  rwa [filterMap_some] at h
/-- [f x for x in xs if p x] -/
theorem eo_filter (own : List (Str × Nat)) (xs : List α) (enc : α → D) (p : α → Bool) (f : α → D) (hc : X.calm = true) (hN : X.N.Nodup) (ok : BlkOk X.N X.env.scope scope own) (hi : ID X ρ tg iter ds) (he : ds = xs.map enc) (turn : ∀ x ∈ xs, Turn1 X ρ scope (own.map (·.2)) tg elt ifs (enc x) (if p x = true then some (f x) else none)) (hl : xs.length ≤ sizeLine)
    (hs : ∀ x, foldedSetIterable iter X.env x = pure x := by intro _; rfl) : EO X ρ (.ListComp elt [⟨tg, iter, ifs, 0⟩] scope cpos) (.lst ((xs.filter p).map f)) := by
  have h := eo_lc (cpos := cpos) own hc hN ok hi (xs.map fun x => if p x = true then some (f x) else none) (by rw [he]; simp) (turns_if he turn) (by rw [he]; simpa using hl) hs
  rwa [filterMap_if] at h
theorem ws_setMap (i : Nat) (own : List (Str × Nat)) (xs : List α) (enc : α → D) (f : α → D) {y : Str} {py : Pos} (hc : X.calm = true) (hN : X.N.Nodup) (ok : BlkOk X.N X.env.scope scope own) (hi : ID X ρ tg iter ds) (he : ds = xs.map enc) (turn : ∀ x ∈ xs, Turn1 X ρ scope (own.map (·.2)) tg elt ifs (enc x) (some (f x))) (hl : xs.length ≤ sizeLine)
    (hΦ : Φ (.nx (ρ.set i (.ow (.lst (xs.map f)))))) (hy : X.N[i]? = some y := by rfl) (hyl : X.env.scope.names.lookup y = some .local := by rfl)
    (hsw : swapsWith (.ListComp elt [⟨tg, iter, ifs, 0⟩] scope cpos) (some (.Name y py)) pos.line X.env = pure true := by exact sw_true rfl rfl rfl (by decide +kernel)) (hs : ∀ x, foldedSetIterable iter X.env x = pure x := by intro _; rfl) :
    WS X (.Assign [.Name y py] (.ListComp elt [⟨tg, iter, ifs, 0⟩] scope cpos) pos) ρ Φ :=
  ws_setLc i own hc hN ok hi (xs.map fun x => some (f x)) (by rw [he]; simp) (turns_map he turn) (by rw [he]; simpa using hl) (by rw [filterMap_some]; exact hΦ) hy hyl hsw hs
/-- for x in xs: I by the turn and the slots -/
theorem ws_forT (xs : List α) (enc : α → D) {body : List Stmt} (hc : X.calm = true) (hi : ID X ρ tg iter ds) (he : ds = xs.map enc) (I : Nat → En → Prop) (h0 : I 0 ρ)
    (hs : ∀ i x ρ', xs[i]? = some x → I i ρ' → ∃ is ρ'', DG X is tg (enc x) ρ' ρ'' ∧ WSs X body ρ'' (fun o => match o with | .nx r => I (i + 1) r | .ct r => I (i + 1) r | .bk r => Φ (.nx r) | .rt v => Φ (.rt v) | .ro c => Φ (.ro c) | .rc v cs => Φ (.rc v cs))) (hd : ∀ ρ', I xs.length ρ' → Φ (.nx ρ'))
    (hp : PassesOwn (model X.prog X.w) X.A X.env X.xe := by exact PassesOwn.never) (hf : ∀ x, foldedSetIterable iter X.env x = pure x := by intro _; rfl) : WS X (.For tg iter body [] pos) ρ Φ := by
  subst he
  refine ws_for hc hi I h0 (fun i d ρ' h1 h2 => ?_) (by simpa using hd) hp hf
  rw [List.getElem?_map] at h1
  cases q : xs[i]? with
  | none => rw [q] at h1; cases h1
  | some x =>
    rw [q] at h1
    cases h1
    exact hs i x ρ' q h2
end
def tru : D → Option Bool
  | .non => some false | .bl b => some b | .int i => some (i != 0) | .lst ds => some (!ds.isEmpty) | .tup ds => some (!ds.isEmpty) | _ => none
theorem DRs.emp {K : PySem.W.Frag} {H : Hp} {ds : List D} {vs : List V} (h : DRs K H ds vs) : vs.isEmpty = ds.isEmpty := by
  cases ds with
  | nil => cases (show vs = [] from h); rfl
  | cons d ds => obtain ⟨v, r, rfl, _⟩ := h; rfl
theorem td_truth {e : Expr} {d : D} {k : Bool} (h : ED X ρ e d) (hk : tru d = some k) (he : ∀ whole, isTrue e X.env whole = (do let v ← whole; standAt e.pos; holding [v] (truthy v)) := by intro _; rfl) : TD X ρ e k := fun B0 B σ H0 H Q j kk =>
  RT.of (pt_truth pe_star he) (h B0 B σ H0 H _ j fun v H0' H' g r => by
    cases d with
    | non => cases (show v = .non from r); cases hk; exact ⟨_, rfl, kk _ _ g⟩
    | bl _ => cases (show v = .bl _ from r); cases hk; exact ⟨_, rfl, kk _ _ g⟩
    | int _ => cases (show v = .int _ from r); cases hk; exact ⟨_, rfl, kk _ _ g⟩
    | lst ds =>
      obtain ⟨a, vs, rfl, h1, h2⟩ := r
      cases hk
      exact ⟨_, .inl ⟨vs, g.sh.seq h1, rfl⟩, by rw [h2.emp]; exact kk _ _ g⟩
    | tup ds =>
      obtain ⟨a, vs, rfl, h1, h2⟩ := r
      cases hk
      exact ⟨_, .inr (.inl ⟨vs, Same.seqT g.sh h1, rfl⟩), by rw [h2.emp]; exact kk _ _ g⟩
    | str _ => cases hk
    | ty _ => cases hk
    | dk _ _ => cases hk
    | dt _ _ => cases hk
    | obj _ _ _ => cases hk
    | ad _ => cases hk
    | ptp _ => cases hk
    | etp _ => cases hk
    | exc _ _ _ _ => cases hk)
theorem fn_wrap {P : Program} {w : World} {K : PySem.W.Frag} {mg : Str → Option Value} {base : Heap} {x : Str} {f : Addr} {fd : FuncData} {ps : List Str} {k : Nat} {R : List D → D → Prop} (hm : mg x = some (.ref f)) (hb : Binds K fd ps []) (kp : PySem.W.keepIn K (.ref f) = true) (F : FnOk P w K mg base CX0 k f fd ps (spR K R)) :
    Fn P w K mg base x k R := ⟨⟨f, fd, ps, F, hm, kp, hb⟩⟩
theorem b2_powL {i j n : Int} (h : CPow i j) (e : i ^ j.toNat = n) : B2 X .Pow (.int i) (.int j) (.int n) := e ▸ b2_pow h
theorem turn_if {Y : Cx} {scope : Scope} {vs : List Nat} {tg elt : Expr} {ifs : List Expr} {d y : D} {p : Bool} (h1 : p = true → Turn1 Y ρ scope vs tg elt ifs d (some y)) (h2 : p = false → Turn1 Y ρ scope vs tg elt ifs d none) :
    Turn1 Y ρ scope vs tg elt ifs d (if p = true then some y else none) := by
  cases p with
  | true => exact h1 rfl
  | false => exact h2 rfl
inductive Part (X : Cx) (ρ : En) : Option Expr → Option Int → Prop where
  | none : Part X ρ none none
  | some {e i} (h : ED X ρ e (.int i)) : Part X ρ (some e) (some i)
theorem no_part : Part X ρ none none := .none
theorem some_part {e i} (h : ED X ρ e (.int i)) : Part X ρ (some e) (some i) := .some h
def RP (X : Cx) (e : Option Expr) : TO := fun σ H Q => ∃ t, PO X e t ∧ t σ H Q
theorem po_star {e} : PO X e (RP X e) := ⟨fun pins s σ H Q I ⟨_, h, q⟩ => h.run pins s σ H Q I q⟩
theorem Part.run {e : Option Expr} {o : Option Int} (h : Part X ρ e o) {B0 B : Hp} {σ : L2.St} {H0 H : Hp} {Q : Option Int → Hp → Prop} (j : J X.K B0 B σ H0 H ρ) (k : ∀ H0' H', JH H0 H H0' H' → Q o H') : RP X e σ H Q := by
  cases h with
  | none => exact ⟨_, po_none, k H0 H (JH.refl j.same)⟩
  | some h => exact ⟨_, po_some pe_star, h B0 B σ H0 H _ j fun v H0' H' g r => ⟨_, r, k H0' H' g⟩⟩
def cutD (xs : List D) (lo hi : Option Int) : List D := (xs.drop (HT.sIx xs.length 0 lo)).take (HT.sIx xs.length xs.length hi - HT.sIx xs.length 0 lo)
theorem DRs.cut {K : PySem.W.Frag} {H : Hp} {ds : List D} {vs : List V} (h : DRs K H ds vs) (lo hi : Option Int) : DRs K H (cutD ds lo hi) (cutV vs lo hi) := by
  unfold cutD cutV
  rw [← DRs.length h]
  exact DRs.take _ (DRs.drop _ h)
theorem eo_slice {e : Expr} {lo hi : Option Expr} {p q : Option Int} {ds : List D} {p2 pos : Pos} (he : ED X ρ e (.lst ds)) (hl : Part X ρ lo p) (hh : Part X ρ hi q) : EO X ρ (.Subscript e (.Slice lo hi none p2) pos) (.lst (cutD ds p q)) := fun B0 B σ H0 H Q j k =>
  RE.of (pe_slice sl_list pe_star po_star po_star) (he B0 B σ H0 H _ j fun v G0 G g1 r => hl.run (j.grow g1) fun L0 L g2 => hh.run ((j.grow g1).grow g2) fun M0 M g3 => by
    obtain ⟨a, vs, rfl, h1, h2⟩ := r
    have g := g2.trans g3
    exact ⟨a, vs, rfl, g.sh.seq (g.s0.seq h1), fun p hp => k p _ M0 _ ((g1.trans g).trans (JH.own g.sh hp)) upd_same (g.sh.free hp) ((g1.trans g).sB.free hp) ⟨_, rfl, DRs.cut (DRs.mono g.s0 _ _ h2) _ _⟩⟩)
theorem rngD0 (n : Nat) : rngD 0 n = (List.range n).map fun (i : Nat) => D.int (i : Int) := by
  unfold rngD
  refine List.map_congr_left fun i _ => ?_
  rw [Int.zero_add]
/-- some slots changed -/
def upds (ρ : En) (l : List (Nat × Sl)) : En := l.foldl (fun r p => r.set p.1 p.2) ρ
/-- for x in xs: what changes from turn to turn is told slot by slot: G, of the turn and of what one doesn't care for (V reads it off) -/
theorem ws_forU {α U : Type} {tg iter : Expr} {ds : List D} {pos : Pos} {Φ : Out → Prop} (xs : List α) (enc : α → D) {body : List Stmt} (hc : X.calm = true) (hi : ID X ρ tg iter ds) (he : ds = xs.map enc) (G : Nat → U → List (Nat × Sl)) (V : En → U) (P : Nat → Prop) (hρ : upds ρ (G 0 (V ρ)) = ρ) (h0 : P 0)
    (hs : ∀ i x u, xs[i]? = some x → P i → ∃ is ρ'', DG X is tg (enc x) (upds ρ (G i u)) ρ'' ∧ WSs X body ρ'' (fun o => match o with | .nx r => upds ρ (G (i + 1) (V r)) = r ∧ P (i + 1) | .ct r => upds ρ (G (i + 1) (V r)) = r ∧ P (i + 1) | .bk r => Φ (.nx r) | .rt v => Φ (.rt v) | .ro c => Φ (.ro c) | .rc v cs => Φ (.rc v cs)))
    (hd : ∀ u, P xs.length → Φ (.nx (upds ρ (G xs.length u))))
    (hp : PassesOwn (model X.prog X.w) X.A X.env X.xe := by exact PassesOwn.never) (hf : ∀ x, foldedSetIterable iter X.env x = pure x := by intro _; rfl) : WS X (.For tg iter body [] pos) ρ Φ := by
  refine ws_forT xs enc hc hi he (fun i r => (∃ u, upds ρ (G i u) = r) ∧ P i) ⟨⟨V ρ, hρ⟩, h0⟩ (fun i x r hx hI => ?_) (fun r hI => ?_) hp hf
  · obtain ⟨⟨u, rfl⟩, p⟩ := hI
    obtain ⟨is, r2, h1, h2⟩ := hs i x u hx p
    refine ⟨is, r2, h1, ws_mono h2 fun o ho => ?_⟩
    cases o with
    | nx r => exact ⟨⟨_, ho.1⟩, ho.2⟩
    | ct r => exact ⟨⟨_, ho.1⟩, ho.2⟩
    | bk r => exact ho
    | rt v => exact ho
    | ro c => exact ho
    | rc v cs => exact ho
  · obtain ⟨⟨u, rfl⟩, p⟩ := hI
    exact hd u p
end
theorem bb_len : bootBuiltins (PySem.Str.ofString "len") = some (.builtin "len") := by decide +kernel
theorem bb_min : bootBuiltins (PySem.Str.ofString "min") = some (.builtin "min") := by decide +kernel
theorem bb_max : bootBuiltins (PySem.Str.ofString "max") = some (.builtin "max") := by decide +kernel
theorem bb_sum : bootBuiltins (PySem.Str.ofString "sum") = some (.builtin "sum") := by decide +kernel
theorem bb_all : bootBuiltins (PySem.Str.ofString "all") = some (.builtin "all") := by decide +kernel
theorem bb_isinstance : bootBuiltins (PySem.Str.ofString "isinstance") = some (.builtin "isinstance") := by decide +kernel
theorem bb_int : bootBuiltins (PySem.Str.ofString "int") = some (.type "int") := by decide +kernel
theorem bb_tuple : bootBuiltins (PySem.Str.ofString "tuple") = some (.type "tuple") := by decide +kernel
theorem bb_list : bootBuiltins (PySem.Str.ofString "list") = some (.type "list") := by decide +kernel
theorem bb_str : bootBuiltins (PySem.Str.ofString "str") = some (.type "str") := by decide +kernel
end DL
namespace DL
open PySem PySem.Spec PyProof.Rows L2
/-- data of ints and short texts, n deep -/
def smallStr (x : Str) : Prop := PyData.strOk x = true
inductive Cm : Nat → D → Prop where
  | int {n i} : Cm n (.int i)
  | str {n x} (h : smallStr x) : Cm n (.str x)
  | tup {n ds} (h : ∀ d ∈ ds, Cm n d) : Cm (n + 1) (.tup ds)
  | lst {n ds} (h : ∀ d ∈ ds, Cm n d) : Cm (n + 1) (.lst ds)
theorem Cm.mono {n m : Nat} (h : n ≤ m) {d : D} (c : Cm n d) : Cm m d := by
  induction c generalizing m with
  | int => exact .int
  | str q => exact .str q
  | tup _ ih =>
    obtain ⟨m, rfl⟩ : ∃ m', m = m' + 1 := ⟨m - 1, by omega⟩
    exact .tup fun d hd => ih d hd (by omega)
  | lst _ ih =>
    obtain ⟨m, rfl⟩ : ∃ m', m = m' + 1 := ⟨m - 1, by omega⟩
    exact .lst fun d hd => ih d hd (by omega)
theorem plains_iff : ∀ {ds : List D}, (∀ d ∈ ds, d.plain = true) → D.plains ds = true
  | [], _ => by simp [D.plains]
  | d :: ds, h => by simp only [D.plains, Bool.and_eq_true]; exact ⟨h d (by simp), plains_iff fun e he => h e (by simp [he])⟩
theorem lays_iff : ∀ {ds : List D}, (∀ d ∈ ds, d.py.canLay0 = true) → PyData.canLayAll0 (D.pys ds) = true
  | [], _ => by simp [D.pys, PyData.canLayAll0]
  | d :: ds, h => by simp only [D.pys, PyData.canLayAll0, Bool.and_eq_true]; exact ⟨h d (by simp), lays_iff fun e he => h e (by simp [he])⟩
theorem depths_le : ∀ {ds : List D} {n : Nat}, (∀ d ∈ ds, d.py.depth ≤ n) → PyData.depthAll (D.pys ds) ≤ n
  | [], n, _ => by simp [D.pys, PyData.depthAll]
  | d :: ds, n, h => by
    simp only [D.pys, PyData.depthAll]
    have h1 := h d (by simp)
    have h2 := depths_le (ds := ds) (n := n) fun e he => h e (by simp [he])
    omega
theorem Cm.plain {n : Nat} {d : D} (c : Cm n d) : d.plain = true := by
  induction c with
  | int => simp [D.plain]
  | str _ => simp [D.plain]
  | tup _ ih => simp only [D.plain]; exact plains_iff ih
  | lst _ ih => simp only [D.plain]; exact plains_iff ih
theorem Cm.lay {n : Nat} {d : D} (c : Cm n d) : d.py.canLay0 = true := by
  induction c with
  | int => simp [D.py, PyData.canLay0]
  | str h => simp only [D.py, PyData.canLay0]; exact h
  | tup _ ih => simp only [D.py, PyData.canLay0]; exact lays_iff ih
  | lst _ ih => simp only [D.py, PyData.canLay0]; exact lays_iff ih
theorem Cm.depth {n : Nat} {d : D} (c : Cm n d) : d.py.depth ≤ n + 1 := by
  induction c with
  | int => simp [D.py, PyData.depth]
  | str _ => simp [D.py, PyData.depth]
  | tup _ ih => simp only [D.py, PyData.depth]; have := depths_le ih; omega
  | lst _ ih => simp only [D.py, PyData.depth]; have := depths_le ih; omega
theorem Cm.cmp {n : Nat} {d : D} (c : Cm n d) (hn : n ≤ 63) : Cmp d := ⟨c.plain, by
  unfold SeqAt.shaped
  rw [c.lay]
  have := c.depth
  simp; omega⟩
theorem Cm.inv {n : Nat} {d : D} (c : Cm n d) : (∃ i, d = .int i) ∨ (∃ x, d = .str x) ∨ (∃ ds m, d = .tup ds ∧ n = m + 1 ∧ ∀ e ∈ ds, Cm m e) ∨ (∃ ds m, d = .lst ds ∧ n = m + 1 ∧ ∀ e ∈ ds, Cm m e) := by
  cases c with
  | int => exact .inl ⟨_, rfl⟩
  | str _ => exact .inr (.inl ⟨_, rfl⟩)
  | tup h => exact .inr (.inr (.inl ⟨_, _, rfl, rfl, h⟩))
  | lst h => exact .inr (.inr (.inr ⟨_, _, rfl, rfl, h⟩))
theorem eqvs_iff {n m : Nat} (ih : ∀ d e, Cm n d → Cm m e → (PyData.eqv d.py e.py = true ↔ d = e)) : ∀ (ds es : List D), (∀ d ∈ ds, Cm n d) → (∀ e ∈ es, Cm m e) → (PyData.eqvAll (D.pys ds) (D.pys es) = true ↔ ds = es)
  | [], [], _, _ => by simp [D.pys, PyData.eqvAll]
  | [], e :: es, _, _ => by simp [D.pys, PyData.eqvAll]
  | d :: ds, [], _, _ => by simp [D.pys, PyData.eqvAll]
  | d :: ds, e :: es, h1, h2 => by
    have h3 := eqvs_iff ih ds es (fun x hx => h1 x (by simp [hx])) (fun x hx => h2 x (by simp [hx]))
    have h4 := ih d e (h1 d (by simp)) (h2 e (by simp))
    simp only [D.pys, PyData.eqvAll, Bool.and_eq_true, h3, h4, List.cons.injEq]
theorem eqv_iff : ∀ (n m : Nat) (d e : D), Cm n d → Cm m e → (PyData.eqv d.py e.py = true ↔ d = e)
  | n, m, d, e, c, c' => by
    rcases c.inv with ⟨i, rfl⟩ | ⟨x, rfl⟩ | ⟨ds, k, rfl, rfl, h⟩ | ⟨ds, k, rfl, rfl, h⟩ <;> rcases c'.inv with ⟨j, rfl⟩ | ⟨y, rfl⟩ | ⟨es, l, rfl, rfl, h'⟩ | ⟨es, l, rfl, rfl, h'⟩
    · simp [D.py, PyData.eqv]
    · simp [D.py, PyData.eqv]
    · simp [D.py, PyData.eqv]
    · simp [D.py, PyData.eqv]
    · simp [D.py, PyData.eqv]
    · simp [D.py, PyData.eqv]
    · simp [D.py, PyData.eqv]
    · simp [D.py, PyData.eqv]
    · simp [D.py, PyData.eqv]
    · simp [D.py, PyData.eqv]
    · simp only [D.py, PyData.eqv, D.tup.injEq]
      exact eqvs_iff (fun d e c c' => eqv_iff k l d e c c') ds es h h'
    · simp [D.py, PyData.eqv]
    · simp [D.py, PyData.eqv]
    · simp [D.py, PyData.eqv]
    · simp [D.py, PyData.eqv]
    · simp only [D.py, PyData.eqv, D.lst.injEq]
      exact eqvs_iff (fun d e c c' => eqv_iff k l d e c c') ds es h h'
theorem Cm.ints {n : Nat} {ns : List Int} : ∀ d ∈ ns.map D.int, Cm n d := fun d hd => by
  obtain ⟨i, _, rfl⟩ := List.mem_map.mp hd
  exact .int
section
variable {X : Cx} {ρ : En}
theorem c2_eqC {n m : Nat} {d e : D} {k : Bool} (hu : X.A.units + 64 < cLine) (c : Cm n d) (c' : Cm m e) (hk : k = true ↔ d = e) (hn : n ≤ 63 := by decide) (hm : m ≤ 63 := by decide) : C2 X .Eq d e (.bl k) := by
  refine c2_eqD hu (c.cmp hn) (c'.cmp hm) ?_
  have h := eqv_iff n m d e c c'
  cases k with
  | true => exact h.mpr (hk.mp rfl)
  | false =>
    cases q : PyData.eqv d.py e.py with
    | false => rfl
    | true => exact absurd (hk.mpr (h.mp q)) (by simp)
theorem c2_neC {n m : Nat} {d e : D} {k : Bool} (hu : X.A.units + 64 < cLine) (c : Cm n d) (c' : Cm m e) (hk : k = true ↔ d = e) (hn : n ≤ 63 := by decide) (hm : m ≤ 63 := by decide) : C2 X .NotEq d e (.bl (!k)) := by
  refine c2_neD hu (c.cmp hn) (c'.cmp hm) ?_
  have h := eqv_iff n m d e c c'
  cases k with
  | true => exact h.mpr (hk.mp rfl)
  | false =>
    cases q : PyData.eqv d.py e.py with
    | false => rfl
    | true => exact absurd (hk.mpr (h.mp q)) (by simp)
def KD (K : PySem.W.Frag) (d : D) (u : Value) : Prop := ∃ v, RelV v u ∧ ∀ H, DR K H d v
def KDs (K : PySem.W.Frag) (ds : List D) (us : List Value) : Prop := ∃ vs, Vals vs us ∧ ∀ H, DRs K H ds vs
theorem kd_int {K : PySem.W.Frag} {i : Int} {t : Tok} : KD K (.int i) (.int i t) := ⟨.int i, ⟨t, rfl⟩, fun _ => rfl⟩
theorem kd_bl {K : PySem.W.Frag} {b : Bool} : KD K (.bl b) (.bool b) := ⟨.bl b, rfl, fun _ => rfl⟩
theorem kd_str {K : PySem.W.Frag} {x : Str} {t : Tok} : KD K (.str x) (.str x t) := ⟨.str x, ⟨t, rfl⟩, fun _ => rfl⟩
theorem kds_nil {K : PySem.W.Frag} : KDs K [] [] := ⟨[], .nil, fun _ => rfl⟩
theorem kds_cons {K : PySem.W.Frag} {d : D} {ds : List D} {u : Value} {us : List Value} (h : KD K d u) (r : KDs K ds us) : KDs K (d :: ds) (u :: us) := by
  obtain ⟨v, h1, h2⟩ := h
  obtain ⟨vs, h3, h4⟩ := r
  exact ⟨v :: vs, .cons h1 h3, fun H => ⟨v, vs, rfl, h2 H, h4 H⟩⟩
theorem kd_tup {K : PySem.W.Frag} {a : Addr} {o : Obj} {ds : List D} {its : Array Value} {n : Nat} (l : K.lookup a = some o) (c : o.cls = .type "tuple") (e : o.data = .seq its n) (z : its.size ≤ sizeLine) (r : KDs K ds its.toList) : KD K (.tup ds) (.ref a) := by
  obtain ⟨vs, h1, h2⟩ := r
  exact ⟨.ref a, rfl, fun H => ⟨a, vs, rfl, .inr ⟨o, its, n, l, c, e, z, h1⟩, h2 H⟩⟩
structure Cst (K : PySem.W.Frag) (mg : Str → Option Value) (x : Str) (d : D) : Prop where
  ex : ∃ u, mg x = some u ∧ KD K d u
theorem ed_const {x : Str} {d : D} {pos : Pos} (h : Cst X.K X.mg x d) (hg : Gl X x) (hd : (x == ("__debug__" : Str)) = false := by decide) : ED X ρ (.Name x pos) d := fun B0 B σ H0 H Q j k => by
  obtain ⟨u, h1, v, h2, h3⟩ := h.ex
  exact RE.of (pe_glob hg h1 h2 hd) (k v H0 H (JH.refl j.same) (h3 H0))
inductive KWs (X : Cx) (ρ : En) : List Keyword → List D → Prop where
  | nil : KWs X ρ [] []
  | cons {nm e p kws d ds} (h : ED X ρ e d) (r : KWs X ρ kws ds) : KWs X ρ (⟨nm, e, p⟩ :: kws) (d :: ds)
def RK (X : Cx) (kws : List Keyword) : TA := fun σ H Q => ∃ t, PK X kws t ∧ t σ H Q
theorem pk_star {kws} : PK X kws (RK X kws) := ⟨fun pos pins s σ H Q I ⟨_, h, q⟩ => h.run pos pins s σ H Q I q⟩
theorem KWs.run {kws : List Keyword} {ds : List D} (h : KWs X ρ kws ds) : ∀ {B0 B : Hp} {σ : L2.St} {H0 H : Hp} {Q : List V → Hp → Prop}, J X.K B0 B σ H0 H ρ → (∀ vs H0' H', JH H0 H H0' H' → DRs X.K H0' ds vs → Q vs H') → RK X kws σ H Q := by
  induction h with
  | nil => exact fun j k => ⟨_, pk_nil, k [] _ _ (JH.refl j.same) rfl⟩
  | cons h r ih =>
    intro B0 B σ H0 H Q j k
    exact ⟨_, pk_cons pe_star pk_star, h B0 B σ H0 H _ j fun v G0 G g1 r1 => ih (j.grow g1) fun vs L0 L g2 r2 => k (v :: vs) L0 L (g1.trans g2) ⟨v, vs, rfl, DR.mono g2.s0 _ _ r1, r2⟩⟩
end
section
variable {X : Cx} {ρ : En}
theorem ed_ifI {c a b : Expr} {k : Bool} {i j : Int} {pos : Pos} (h : TD X ρ c k) (h1 : k = true → ED X ρ a (.int i)) (h2 : k = false → ED X ρ b (.int j)) : ED X ρ (.IfExp c a b pos) (.int (if k = true then i else j)) :=
  ed_if h (fun e => by subst e; exact h1 rfl) (fun e => by subst e; exact h2 rfl)
theorem ed_ifv {c a b : Expr} {k : Bool} {d e : D} {pos : Pos} (h : TD X ρ c k) (h1 : k = true → ED X ρ a d) (h2 : k = false → ED X ρ b e) : ED X ρ (.IfExp c a b pos) (if k = true then d else e) :=
  ed_if h (fun q => by subst q; exact h1 rfl) (fun q => by subst q; exact h2 rfl)
end
section
variable {X : Cx}
theorem map_int_inj {ns ms : List Int} : ns.map D.int = ms.map D.int ↔ ns = ms := by
  constructor
  · intro h
    exact List.map_inj_right (f := D.int) (fun a b e => by cases e; rfl) |>.mp h
  · rintro rfl; rfl
theorem c2_eqInts {ns ms : List Int} (hu : X.A.units + 64 < cLine) : C2 X .Eq (.tup (ns.map .int)) (.tup (ms.map .int)) (.bl (decide (ns = ms))) :=
  c2_eqC (n := 1) (m := 1) hu (.tup Cm.ints) (.tup Cm.ints) (by simp [map_int_inj])
theorem c2_neInts {ns ms : List Int} (hu : X.A.units + 64 < cLine) : C2 X .NotEq (.tup (ns.map .int)) (.tup (ms.map .int)) (.bl (!decide (ns = ms))) :=
  c2_neC (n := 1) (m := 1) hu (.tup Cm.ints) (.tup Cm.ints) (by simp [map_int_inj])
theorem c2_eqIntsL {ns ms : List Int} (hu : X.A.units + 64 < cLine) : C2 X .Eq (.lst (ns.map .int)) (.lst (ms.map .int)) (.bl (decide (ns = ms))) :=
  c2_eqC (n := 1) (m := 1) hu (.lst Cm.ints) (.lst Cm.ints) (by simp [map_int_inj])
theorem c2_eq2 {a b c d : Int} (hu : X.A.units + 64 < cLine) : C2 X .Eq (.tup [.int a, .int b]) (.tup [.int c, .int d]) (.bl (decide ([a, b] = [c, d]))) := c2_eqInts (ns := [a, b]) (ms := [c, d]) hu
theorem c2_ne2 {a b c d : Int} (hu : X.A.units + 64 < cLine) : C2 X .NotEq (.tup [.int a, .int b]) (.tup [.int c, .int d]) (.bl (!decide ([a, b] = [c, d]))) := c2_neInts (ns := [a, b]) (ms := [c, d]) hu
theorem c2_eq4 {a b c d e f g h : Int} (hu : X.A.units + 64 < cLine) : C2 X .Eq (.tup [.int a, .int b, .int c, .int d]) (.tup [.int e, .int f, .int g, .int h]) (.bl (decide ([a, b, c, d] = [e, f, g, h]))) := c2_eqInts (ns := [a, b, c, d]) (ms := [e, f, g, h]) hu
theorem c2_ne4 {a b c d e f g h : Int} (hu : X.A.units + 64 < cLine) : C2 X .NotEq (.tup [.int a, .int b, .int c, .int d]) (.tup [.int e, .int f, .int g, .int h]) (.bl (!decide ([a, b, c, d] = [e, f, g, h]))) := c2_neInts (ns := [a, b, c, d]) (ms := [e, f, g, h]) hu
end
section
variable {X : Cx} {ρ ρ' : En}
section
variable {elt tg iter : Expr} {ifs : List Expr} {scope : Scope} {ds : List D} {cpos pos : Pos} {α β : Type} {Φ : Out → Prop}
/-- [f x for x in xs], the items of a kind -/
theorem eo_map2 (own : List (Str × Nat)) (xs : List α) (enc : α → D) (g : α → β) (enc2 : β → D) (hc : X.calm = true) (hN : X.N.Nodup) (ok : BlkOk X.N X.env.scope scope own) (hi : ID X ρ tg iter ds) (he : ds = xs.map enc) (turn : ∀ x ∈ xs, Turn1 X ρ scope (own.map (·.2)) tg elt ifs (enc x) (some (enc2 (g x)))) (hl : xs.length ≤ sizeLine)
    (hs : ∀ x, foldedSetIterable iter X.env x = pure x := by intro _; rfl) : EO X ρ (.ListComp elt [⟨tg, iter, ifs, 0⟩] scope cpos) (.lst ((xs.map g).map enc2)) := by
  have h := eo_map (cpos := cpos) own xs enc (fun x => enc2 (g x)) hc hN ok hi he turn hl hs
  rw [List.map_map]; exact h
theorem ws_setMap2 (i : Nat) (own : List (Str × Nat)) (xs : List α) (enc : α → D) (g : α → β) (enc2 : β → D) {y : Str} {py : Pos} (hc : X.calm = true) (hN : X.N.Nodup) (ok : BlkOk X.N X.env.scope scope own) (hi : ID X ρ tg iter ds) (he : ds = xs.map enc) (turn : ∀ x ∈ xs, Turn1 X ρ scope (own.map (·.2)) tg elt ifs (enc x) (some (enc2 (g x)))) (hl : xs.length ≤ sizeLine)
    (hΦ : Φ (.nx (ρ.set i (.ow (.lst ((xs.map g).map enc2)))))) (hy : X.N[i]? = some y := by rfl) (hyl : X.env.scope.names.lookup y = some .local := by rfl)
    (hsw : swapsWith (.ListComp elt [⟨tg, iter, ifs, 0⟩] scope cpos) (some (.Name y py)) pos.line X.env = pure true := by exact sw_true rfl rfl rfl (by decide +kernel)) (hs : ∀ x, foldedSetIterable iter X.env x = pure x := by intro _; rfl) :
    WS X (.Assign [.Name y py] (.ListComp elt [⟨tg, iter, ifs, 0⟩] scope cpos) pos) ρ Φ :=
  ws_setMap i own xs enc (fun x => enc2 (g x)) hc hN ok hi he turn hl (by rw [List.map_map] at hΦ; exact hΦ) hy hyl hsw hs
end
end
end DL
namespace DL
open PySem
/-- the k-th number of a script, 0 behind its end -/
def cellAt (ns : List Int) (k : Int) : Int := ns.getD k.toNat 0
def mix1 (c k : Int) : Int := (c * 48271 + (k + 1) * 69621) % 2147483647
def mix2 (c k : Int) : Int := (mix1 c k * mix1 c k + mix1 c k * 16807 + k * 7919) % 2147483629
def mix3 (c k : Int) : Int := (mix2 c k * mix2 c k + c + 13 * k) % 2147483587
def drawStep (c : Int) (a : List Int × Int) (k : Nat) : List Int × Int :=
  if 1000000000000000000 ≤ c ∧ 0 < a.2 then (a.1 ++ [a.2 % 4096], a.2 / 4096) else (a.1 ++ [mix3 c k / 7 % 4096], a.2)
def drawn (c : Int) (n : Nat) : List Int × Int := (List.range n).foldl (drawStep c) ([], c)
def draws (c n : Int) : List Int := (drawn c n.toNat).1
theorem drawn_succ (c : Int) (n : Nat) : drawn c (n + 1) = drawStep c (drawn c n) n := by
  unfold drawn; rw [List.range_succ, List.foldl_append]; rfl
theorem draws_spec (c : Int) : ∀ n, (drawn c n).1.length = n ∧ ∀ x ∈ (drawn c n).1, 0 ≤ x ∧ x < 4096
  | 0 => by simp [drawn]
  | n + 1 => by
    obtain ⟨h1, h2⟩ := draws_spec c n
    rw [drawn_succ]
    unfold drawStep
    split
    · refine ⟨by simp [h1], fun x hx => ?_⟩
      simp only [List.mem_append, List.mem_singleton] at hx
      rcases hx with hx | rfl
      · exact h2 x hx
      · omega
    · refine ⟨by simp [h1], fun x hx => ?_⟩
      simp only [List.mem_append, List.mem_singleton] at hx
      rcases hx with hx | rfl
      · exact h2 x hx
      · omega
theorem draws_len (c n : Int) : (draws c n).length = n.toNat := (draws_spec c _).1
/-- the k-th draw -/
def dr (c n k : Int) : Int := (draws c n).getD k.toNat 0
theorem dr_get {c n k : Int} (h0 : 0 ≤ k) (h : k < n) : (draws c n)[k.toNat]? = some (dr c n k) := by
  unfold dr
  have : k.toNat < (draws c n).length := by rw [draws_len]; omega
  simp [this]
theorem dr_lo (c n k : Int) : 0 ≤ dr c n k ∧ dr c n k < 4096 := by
  unfold dr
  rw [List.getD_eq_getElem?_getD]
  cases q : (draws c n)[k.toNat]? with
  | none => simp
  | some x => exact (draws_spec c _).2 _ (List.mem_of_getElem? q)
/-- an item of a list of numbers -/
theorem at_ints {ns : List Int} {i : Int} {k : Nat} {x : Int} (e : i = k) (h : ns[k]? = some x) : L2.atI (ns.map D.int) i = some (.int x) := by
  subst e
  exact L2.atI_nat (by rw [List.getElem?_map, h]; rfl)
theorem at_draws {c n i : Int} (h0 : 0 ≤ i) (h : i < n) : L2.atI ((draws c n).map D.int) i = some (.int (dr c n i)) :=
  at_ints (k := i.toNat) (by omega) (dr_get h0 h)
def bx0 (a : Int) : Int := a % 11 - 2
def by0 (a : Int) : Int := a / 11 % 11 - 2
def bx1 (a : Int) : Int := a % 11 - 2 + 1 + a / 121 % 6
def by1 (a b : Int) : Int := a / 11 % 11 - 2 + 1 + b % 6
theorem box_lo (a b : Int) : -2 ≤ bx0 a ∧ bx0 a ≤ 8 ∧ -2 ≤ by0 a ∧ by0 a ≤ 8 ∧ bx0 a < bx1 a ∧ bx1 a ≤ bx0 a + 6 ∧ by0 a < by1 a b ∧ by1 a b ≤ by0 a + 6 := by
  unfold bx0 by0 bx1 by1; omega
def boxD (x0 y0 x1 y1 : Int) : D := .tup [.int x0, .int y0, .int x1, .int y1]
def tC (t : Int) : Int := if t = 1 then 1 else if t = 3 then -1 else if t = 5 then -1 else if t = 7 then 1 else 0
def tD (t : Int) : Int := if t = 0 then 1 else if t = 2 then -1 else if t = 4 then 1 else if t = 6 then -1 else 0
def ty (t x y : Int) : Int := tC t * x + tD t * y
def i4 (a b c d : Int) : D := .tup [.int a, .int b, .int c, .int d]
def turnsD : List D := [i4 1 0 0 1, i4 0 (-1) 1 0, i4 (-1) 0 0 (-1), i4 0 1 (-1) 0, i4 (-1) 0 0 1, i4 0 (-1) (-1) 0, i4 1 0 0 (-1), i4 0 1 1 0]
def ct (f s : Int) : Int := (if 4 ≤ s then s - f else s + f) % 4 + (if ((4 ≤ f) ↔ (4 ≤ s)) then 0 else 4)
def inv (t : Int) : Int := if 4 ≤ t then t else (4 - t) % 4
structure Bx where
  a : Int
  b : Int
  c : Int
  d : Int
  deriving DecidableEq
def Bx.e (x : Bx) : D := .tup [.int x.a, .int x.b, .int x.c, .int x.d]
theorem Bx.inj {x y : Bx} (h : x.e = y.e) : x = y := by
  cases x; cases y
  simp only [Bx.e, D.tup.injEq, List.cons.injEq, D.int.injEq] at h
  simp [h.1, h.2.1, h.2.2.1, h.2.2.2.1]
theorem Bx.cm (x : Bx) : Cm 1 x.e := .tup (Cm.ints (ns := [x.a, x.b, x.c, x.d]))
theorem Bx.cms {bs : List Bx} : ∀ d ∈ bs.map Bx.e, Cm 1 d := fun d hd => by
  obtain ⟨x, _, rfl⟩ := List.mem_map.mp hd
  exact x.cm
/-- a drawn box, scaled -/
def boxOf (a b : Int) : Bx := ⟨bx0 a, by0 a, bx1 a, by1 a b⟩
def Bx.scl (x : Bx) (a b : Int) : Bx := ⟨x.a * a + b, x.b * a + b, x.c * a + b, x.d * a + b⟩
end DL
namespace DL
open PySem PySem.Spec PyProof.Rows L2
abbrev Sq := Int × Int
def kq (p : Sq) : List Key := [.inl p.1, .inl p.2]
def dicD (ks : List Sq) : OC := .dt (ks.map kq) ((ks.map fun _ => true).map D.bl)
theorem kq_inj {p q : Sq} : kq p = kq q ↔ p = q := by
  constructor
  · intro h
    simp only [kq, List.cons.injEq, Sum.inl.injEq, and_true] at h
    exact Prod.ext h.1 h.2
  · rintro rfl; rfl
def tT (ks : List Sq) : List (List Key × V) := ks.map fun q => (kq q, V.bl true)
theorem zipT (ks : List Sq) : (ks.map kq).zip ((ks.map fun _ => true).map V.bl) = tT ks := by
  induction ks with
  | nil => rfl
  | cons k ks ih => simp only [List.map_cons, List.zip_cons_cons, ih]; rfl
theorem tT_any (ks : List Sq) (p : Sq) : ((tT ks).any fun kv => decide (kv.1 = kq p)) = decide (p ∈ ks) := by
  induction ks with
  | nil => rfl
  | cons k ks ih =>
    have e : tT (k :: ks) = (kq k, V.bl true) :: tT ks := rfl
    rw [e, List.any_cons, ih, Bool.eq_iff_iff]
    simp only [Bool.or_eq_true, decide_eq_true_eq, List.mem_cons, kq_inj]
    exact or_congr ⟨Eq.symm, Eq.symm⟩ Iff.rfl
theorem tT_val (ks : List Sq) (p : Sq) : (valV (tT ks) (kq p)).isSome = decide (p ∈ ks) := by
  rw [← valV_any, tT_any]
theorem dr_dic {K : PySem.W.Frag} {H0 : Hp} {ks : List Sq} {v : V} (h : DR K H0 (dicD ks).d v) : ∃ a, v = .ref a ∧ Rd H0 a (.dT (tT ks)) := by
  obtain ⟨a, vs, rfl, h1, hl, r⟩ := h
  rw [DRs.bls r, zipT] at h1
  exact ⟨a, rfl, h1⟩
section
variable {X : Cx} {ρ : En} {Φ : Out → Prop} {pos : Pos}
/-- square in d -/
theorem op_inSq (hu : X.A.units + 1 < cLine) : OpR X (compareOp .In) (fun x y H Q => ∃ (a b : Addr) (kvs : List (List Key × V)) (k : List Key), x = .ref b ∧ y = .ref a ∧ Rd H a (.dT kvs) ∧ SqT X.K H b (k.map kV) ∧ Q (.bl (valV kvs k).isSome) H) := by
  rintro pins s σ H x y v u Q I rx ry ⟨a, b, kvs, k, rfl, rfl, h1, h2, q⟩
  cases (show v = Value.ref b from rx); cases (show u = Value.ref a from ry)
  obtain ⟨z, hd, xs, rel, dd⟩ := dt_rd I.hok h1
  obtain ⟨its, r, ⟨o, e, c, n, dat⟩, _⟩ := I.tuple h2
  refine wpAny_in_heap (tupleKind_room_in1 hu) (k := k) ⟨o, its.toArray, n, e, c, dat, by simpa using items_are r⟩ hd dd ?_
  have qq := (rel.val k).isSome_eq
  rw [Option.isSome_map] at qq
  rw [← qq]
  exact ⟨.bl (valV kvs k).isSome, H, I.tok _, rfl, q⟩
theorem c2_inSq {p1 p2 : Int} {ks : List Sq} (hu : X.A.units + 64 < cLine) : C2 X .In (.tup [.int p1, .int p2]) (dicD ks).d (.bl (decide ((p1, p2) ∈ ks))) := ⟨_, op_inSq (by omega), fun H0 H x y Q s r1 r2 kk => by
  obtain ⟨b, vs, rfl, h1, r⟩ := r1
  obtain ⟨v, w, rfl, e1, e2⟩ := r.two
  cases (show v = .int p1 from e1); cases (show w = .int p2 from e2)
  obtain ⟨a, rfl, h2⟩ := dr_dic r2
  exact ⟨a, b, _, kq (p1, p2), rfl, rfl, Same.rd s h2, Same.seqT s h1, kk _ H0 H (JH.refl s) (by rw [tT_val]; rfl)⟩⟩
end
end DL
namespace DL
open PySem
def sel3 (p q r m : Int) : Int := if m = 0 then p else if m = 1 then q else r
theorem ix_sel3 {p q r m : Int} (h : 0 ≤ m ∧ m < 3) : IX (.lst [.int p, .int q, .int r]) (.int m) (.int (sel3 p q r m)) := by
  have : m = 0 ∨ m = 1 ∨ m = 2 := by omega
  rcases this with rfl | rfl | rfl
  · exact IX.l0
  · exact IX.l1
  · exact IX.l2
end DL
namespace DL
open PySem PySem.Spec PyProof.Rows L2
section
variable {X : Cx} {ρ ρ' : En}
/-- z[i], z a text -/
theorem ed_ixS {a b : Expr} {z : Str} {i : Int} {c : Nat} {pos : Pos} (ha : ED X ρ a (.str z)) (hb : ED X ρ b (.int i)) (hz : z.length ≤ sizeLine) (h : atI z.cps.toList i = some c) (hs : PlainIx b := by exact fun _ _ => rfl) : ED X ρ (.Subscript a b pos) (.str ⟨#[c]⟩) := fun B0 B σ H0 H Q j kk => by
  refine RE.of (pe_ix ix_str pe_star pe_star hs) (ha B0 B σ H0 H _ j fun x G0 G g1 r1 => hb B0 B σ G0 G _ (j.grow g1) fun y L0 L g2 r2 => ?_)
  exact ⟨z, i, c, r1, r2, hz, h, kk _ L0 L (g1.trans g2) rfl⟩
theorem DG.mono {is is' : List Nat} {tg : Expr} {d : D} (h : DG X is tg d ρ ρ') (hi : ∀ k ∈ is, k ∈ is') : DG X is' tg d ρ ρ' := fun B0 B σ H0 H v Q j r k =>
  h B0 B σ H0 H v Q j r fun σ' j' off => k σ' j' fun m hm => off m fun z => hm (hi m z)
end
end DL
namespace DL
open PySem L2
def tI (t : List Int) : D := .tup (t.map .int)
def ltr : Str := "abcdefghijklmnopqrstuvwxyz"
def tls : List Str := ["", "1", "n2", "ab", "z9", "q0q"]
theorem ltr_len : ltr.cps.toList.length = 26 := by decide +kernel
theorem at_ltr {i : Int} (h0 : 0 ≤ i) (h1 : i < 26) : atI ltr.cps.toList i = some (ltr.cps.toList.getD i.toNat 0) := by
  refine atI_nn h0 ?_
  have : i.toNat < ltr.cps.toList.length := by rw [ltr_len]; omega
  rw [List.getD_eq_getElem?_getD, List.getElem?_eq_getElem this]; rfl
theorem at_tls {i : Int} (h0 : 0 ≤ i) (h1 : i < 6) : atI (tls.map D.str) i = some (.str (tls.getD i.toNat "")) := by
  refine atI_nn h0 ?_
  have : i.toNat < tls.length := by show i.toNat < 6; omega
  rw [List.getElem?_map, List.getD_eq_getElem?_getD, List.getElem?_eq_getElem this]; rfl
theorem tls_len (i : Nat) : (tls.getD i "").length ≤ 3 := by
  match i with
  | 0 => decide +kernel
  | 1 => decide +kernel
  | 2 => decide +kernel
  | 3 => decide +kernel
  | 4 => decide +kernel
  | 5 => decide +kernel
  | i + 6 => 
    rw [List.getD_eq_getElem?_getD, List.getElem?_eq_none (by show 6 ≤ i + 6; omega)]
    decide +kernel
def nmOf (d : Int) : Str := (⟨#[ltr.cps.toList.getD (d % 26).toNat 0]⟩ : Str) ++ tls.getD (d / 26 % 6).toNat ""
end DL
namespace DL
open PySem PySem.Spec PyProof.Rows L2
/-- c stands at a, and some slot owns it -/
structure Cell (ρ : En) (a : Addr) (c : OC) : Prop where
  ex : ∃ (i : Nat) (cs : List (Addr × OC)) (d : D), ρ[i]? = some (.ox cs d) ∧ (a, c) ∈ cs
section
variable {K : PySem.W.Frag} {B0 B H0 H : Hp} {σ : L2.St} {ρ : En}
theorem J.at (j : J K B0 B σ H0 H ρ) {a : Addr} {c : OC} (h : Cell ρ a c) : ∃ o, H a = some o ∧ H0 a = none ∧ B a = none ∧ OCR K H0 c o := by
  obtain ⟨i, cs, d, h1, h2⟩ := h.ex
  exact j.cell h1 h2
end
section
variable {X : Cx} {ρ : En} {Φ : Out → Prop} {e a b : Expr} {pos : Pos} {d : D} {rest : List Stmt}
theorem ed_varX (i : Nat) {x : Str} {cs : List (Addr × OC)} (hρ : ρ[i]? = some (.ox cs d)) (hN : X.N[i]? = some x := by rfl) (hv : Vis X.env.scope x := by first | exact Or.inl rfl | exact Or.inr (Or.inl rfl) | exact Or.inr (Or.inr rfl)) (hd : (x == ("__debug__" : Str)) = false := by decide)
    (hcd : (x == ("__classdict__" : Str)) = false := by decide) : ED X ρ (.Name x pos) d := fun B0 B σ H0 H Q j k => by
  obtain ⟨ov, h1, ⟨v, rfl, h2⟩, _⟩ := j.get hρ
  exact RE.of (pe_var hN hv hd hcd) ⟨v, h1, k v H0 H (JH.refl j.same) h2⟩
/-- .. that a slot owns -/
theorem ed_ixO (m : Nat) {x : Str} {p1 : Pos} {ds : List D} {i : Int} (hρ : ρ[m]? = some (.ow (.lst ds))) (hb : ED X ρ b (.int i)) (h : atI ds i = some d) (hs : PlainIx b := by exact fun _ _ => rfl) (hN : X.N[m]? = some x := by rfl) (hv : Vis X.env.scope x := by first | exact Or.inl rfl | exact Or.inr (Or.inl rfl) | exact Or.inr (Or.inr rfl)) (hd : (x == ("__debug__" : Str)) = false := by decide)
    (hcd : (x == ("__classdict__" : Str)) = false := by decide) : ED X ρ (.Subscript (.Name x p1) b pos) d := fun B0 B σ H0 H Q j kk => by
  obtain ⟨ov, e0, p, o, rfl, _⟩ := j.get hρ
  refine RE.of (pe_ix ix_list (pe_var hN hv hd hcd) pe_star hs) ⟨_, e0, hb B0 B σ H0 H _ j fun y L0 L g2 r2 => ?_⟩
  obtain ⟨ov', e0', p', o', e3, h1, h2, h3, vs, rfl, r⟩ := (j.grow g2).get hρ
  rw [e0] at e0'; cases e0'; cases e3
  obtain ⟨k, e1, e2, _⟩ := atI_get h
  obtain ⟨v, h3, h4⟩ := DRs.get r e2
  have e4 : atI vs i = some v := by
    unfold atI at h ⊢
    rw [← DRs.length r]
    cases q : ixN ds.length i with
    | none => rw [q] at h; cases h
    | some m =>
      rw [q] at h
      have := (ixN_seq q).1
      rw [e1] at this
      cases this
      exact h3
  exact ⟨p, vs, i, v, rfl, r2, SqL.of h1, e4, kk v L0 L g2 h4⟩
/-- e.append(f), e a list at a place -/
theorem ws_appendA (i : Nat) {p : Addr} {cs : List (Addr × OC)} {d0 : D} {ds : List D} {p2 p3 : Pos} (hi : ρ[i]? = some (.ox cs d0)) (hm : (p, OC.lst ds) ∈ cs) (ha : ED X ρ a (.ad p)) (he : ED X ρ e d) (hl : ds.length < sizeLine) (hΦ : Φ (.nx (ρ.set i (.ox (putC cs p (.lst (ds ++ [d]))) d0))))
    (hpe : ∀ {to : TE} {ta : TA}, PE X a to → PA X [e] ta → PS X (.Expr (.Call (.Attribute a "append" p2) [e] [] p3) pos) (tDrop (tBM X.K "list" rAppend to ta))) (hs : starEach [e] X.env = (false, eval e X.env) :: starEach [] X.env := by rfl) :
    WS X (.Expr (.Call (.Attribute a "append" p2) [e] [] p3) pos) ρ Φ := fun B0 B σ H0 H Dn j k => by
  refine ⟨_, hpe pe_star pa_star, ha B0 B σ H0 H _ j fun v G0 G g r => ?_⟩
  cases (show v = .ref p from r)
  obtain ⟨o, h1, h2, h3, vs, rfl, r⟩ := (j.grow g).cell hi hm
  refine ⟨Or.inl ⟨rfl, _, Or.inl (Or.inl h1)⟩, ad_cons (X := X) he ad_nil hs B0 B σ G0 G _ (j.grow g) fun ws L0 L g2 rr => ?_⟩
  obtain ⟨y, rfl, ry⟩ := rr.one'
  have j1 := (j.grow g).grow g2
  obtain ⟨o', h1', h2', h3', vs', rfl, r'⟩ := j1.cell hi hm
  exact ⟨p, vs', y, rfl, rfl, h1', by rw [← DRs.length r']; exact hl, k _ hΦ _ L0 _ (j1.put hi hm ⟨_, rfl, DRs.app r' (DRs.one ry)⟩)⟩
end
theorem putK_zip {κ : Type} [DecidableEq κ] {ks : List κ} {vs : List V} {k : κ} {v : V} (hl : ks.length = vs.length) (h : k ∉ ks) : putK (ks.zip vs) k v = (ks ++ [k]).zip (vs ++ [v]) := by
  unfold putK
  have e : ((ks.zip vs).any fun kv => decide (kv.1 = k)) = false := by
    rw [List.any_eq_false]
    rintro ⟨k', v'⟩ hm
    have := (List.of_mem_zip hm).1
    simp only [decide_eq_true_eq]
    rintro rfl
    exact h this
  rw [e, if_neg (by simp), List.zip_append hl]; rfl
end DL
namespace DL
abbrev Seg (α : Type) := Int × Int × α
section
variable {α : Type} [DecidableEq α] {e : α}
def segVal (e : α) : List (Seg α) → Int → α
  | [], _ => e
  | s :: t, y => if s.1 ≤ y ∧ y < s.2.1 then s.2.2 else segVal e t y
/-- one behind the other, not to be made one -/
def link (s s' : Seg α) : Prop := s.2.1 ≤ s'.1 ∧ (s.2.1 = s'.1 → s.2.2 ≠ s'.2.2)
def okS (e : α) (s : Seg α) : Prop := s.1 < s.2.1 ∧ s.2.2 ≠ e
inductive Can (e : α) : List (Seg α) → Prop where
  | nil : Can e []
  | one {s} (h : okS e s) : Can e [s]
  | cons {s s' t} (h : okS e s) (hl : link s s') (ht : Can e (s' :: t)) : Can e (s :: s' :: t)
theorem Can.head {s : Seg α} {t : List (Seg α)} (h : Can e (s :: t)) : okS e s := by
  cases h with
  | one h => exact h
  | cons h _ _ => exact h
theorem Can.tail {s : Seg α} {t : List (Seg α)} (h : Can e (s :: t)) : Can e t := by
  cases h with
  | one h => exact .nil
  | cons _ _ h => exact h
theorem Can.ok {l : List (Seg α)} (h : Can e l) : ∀ p ∈ l, okS e p := by
  induction l with
  | nil => intro p hp; simp at hp
  | cons s t ih =>
    intro p hp
    rcases List.mem_cons.mp hp with rfl | hp
    · exact h.head
    · exact ih h.tail p hp
end
end DL
namespace DL
abbrev Asc (es : List Int) : Prop := es.Pairwise (· < ·)
def par (es : List Int) : Bool := decide (es.length % 2 = 1)
structure EOk (es : List Int) : Prop where
  asc : Asc es
  even : es.length % 2 = 0
theorem EOk.par {es : List Int} (h : EOk es) : par es = false := by
  unfold DL.par
  rw [decide_eq_false]
  have := h.even
  omega
theorem eok_nil : EOk [] := ⟨List.Pairwise.nil, rfl⟩
end DL
namespace DL
open PySem PySem.Spec PyProof.Rows L2
def LeQ (a b : Sq) : Prop := a.1 < b.1 ∨ (a.1 = b.1 ∧ a.2 ≤ b.2)
instance (a b : Sq) : Decidable (LeQ a b) := by unfold LeQ; infer_instance
inductive All2 {α β : Type} (r : α → β → Prop) : List α → List β → Prop where
  | nil : All2 r [] []
  | cons {a b as bs} (h : r a b) (t : All2 r as bs) : All2 r (a :: as) (b :: bs)
theorem All2.len {α β : Type} {r : α → β → Prop} {as : List α} {bs : List β} (h : All2 r as bs) : as.length = bs.length := by
  induction h with
  | nil => rfl
  | cons _ _ ih => simp [ih]
theorem All2.imp {α β : Type} {r q : α → β → Prop} {as : List α} {bs : List β} (h : All2 r as bs) (i : ∀ a b, r a b → q a b) : All2 q as bs := by
  induction h with
  | nil => exact .nil
  | cons h _ ih => exact .cons (i _ _ h) ih
theorem All2.get {α β : Type} {r : α → β → Prop} : ∀ {as : List α} {bs : List β} {j : Nat} {a : α} {b : β}, All2 r as bs → as[j]? = some a → bs[j]? = some b → r a b
  | _, _, j, _, _, .nil, h, _ => by simp at h
  | _, _, 0, _, _, .cons h t, h1, h2 => by simp at h1 h2; subst h1 h2; exact h
  | _, _, j + 1, _, _, .cons h t, h1, h2 => All2.get (j := j) t (by simpa using h1) (by simpa using h2)
end DL
namespace DL
abbrev Row := Seg (List Int)
structure ROk (R : List Row) : Prop where
  can : Can [] R
  ed : ∀ p ∈ R, EOk p.2.2
def rowAt (R : List Row) (y : Int) : List Int := segVal [] R y
theorem segVal_mem {α : Type} {e : α} : ∀ {l : List (Seg α)} {y : Int}, segVal e l y = e ∨ ∃ p ∈ l, p.1 ≤ y ∧ y < p.2.1 ∧ p.2.2 = segVal e l y
  | [], y => .inl rfl
  | s :: t, y => by
    unfold segVal
    by_cases h : s.1 ≤ y ∧ y < s.2.1
    · rw [if_pos h]; exact .inr ⟨s, List.mem_cons_self, h.1, h.2, rfl⟩
    · rw [if_neg h]
      rcases segVal_mem (e := e) (l := t) (y := y) with h | ⟨p, h1, h2⟩
      · exact .inl h
      · exact .inr ⟨p, List.mem_cons_of_mem _ h1, h2⟩
theorem ROk.row {R : List Row} (h : ROk R) (y : Int) : EOk (rowAt R y) := by
  rcases segVal_mem (e := ([] : List Int)) (l := R) (y := y) with e | ⟨p, h1, _, _, e⟩
  · unfold rowAt; rw [e]; exact eok_nil
  · unfold rowAt; rw [← e]; exact h.ed p h1
def Bx.has (b : Bx) (x y : Int) : Bool := decide ((b.a ≤ x ∧ x < b.c) ∧ b.b ≤ y ∧ y < b.d)
end DL
namespace DL
open PySem PySem.Spec L2
theorem atI_last {α : Type} {xs : List α} {d : α} (h : xs.getLast? = some d) : atI xs (-1) = some d := by
  have hne : xs ≠ [] := by rintro rfl; simp at h
  have hl : 0 < xs.length := List.length_pos_iff.mpr hne
  unfold atI ixN
  rw [if_neg (by omega), if_pos (by omega)]
  show xs[((-1 : Int) + (xs.length : Int)).toNat]? = some d
  rw [List.getLast?_eq_getElem?] at h
  rw [← h]
  congr 1
  omega
end DL
namespace DL
open PySem PySem.Spec PyProof.Rows L2
open PySem.W (EachIs AllAlike Sortable KeepsBut SortsAt KeyedOut dataLe dataKind alike)
section
variable {X : Cx} {pins : List (Addr × Obj)} {σ : L2.St} {H : Hp} {s : Shared} {β : Type} {bs : List β} {enc kd : β → D} {R : List D → D → Prop} {k : Nat} {f : Addr}
variable {ρ : En}
/-- a list or a tuple -/
inductive SeqD : D → List D → Prop where
  | lst (ds) : SeqD (.lst ds) ds
  | tup (ds) : SeqD (.tup ds) ds
theorem id_seq {tg e : Expr} {d : D} {ds : List D} (h : SeqD d ds) (he : ED X ρ e d) : ID X ρ tg e ds := by
  cases h with
  | lst => exact id_list he
  | tup => exact id_tup he
end
end DL
namespace DL
open PySem PySem.Spec PyProof.Rows L2
section
variable {X : Cx} {ρ : En} {a b : Expr} {pos : Pos}
theorem op_catL : OpR X (binaryOp .Add) (fun x y H Q => ∃ (l m : Addr) (xs zs : List V), x = .ref l ∧ y = .ref m ∧ SqL X.K H l xs ∧ SqL X.K H m zs ∧ xs.length + zs.length ≤ sizeLine ∧ ∀ p, H p = none → Q (.ref p) (upd H p (.lst (xs ++ zs)))) := by
  intro pins s σ H x y v u Q I rx ry h
  obtain ⟨l, m, xs, zs, rfl, rfl, h1, h2, hz, q⟩ := h
  cases rx
  cases ry
  obtain ⟨its, r1, ⟨⟨c1, d1, t1, s1⟩, n1, o1, e1, _, f1⟩, _⟩ := I.list h1
  obtain ⟨jts, r2, ⟨⟨c2, d2, t2, s2⟩, n2, o2, e2, _, f2⟩, _⟩ := I.list h2
  simp only at e1 f1 e2 f2
  subst e1 f1 e2 f2
  have hl : its.length + jts.length ≤ sizeLine := by rw [← r1.length, ← r2.length]; exact hz
  refine concat_meets ⟨_, o1, rfl⟩ ⟨_, o2, rfl⟩ noFill_list_add seq_list_add PySem.F.slot_list_add PySem.F.entry_list_add (PySem.F.args_list_add_2 _ _) (list_addW l m its.toArray jts.toArray n1 n2 d1 d2 s1 s2 (by simpa using hl)) ⟨o1, o2, ?_⟩
  have ea : its.toArray ++ jts.toArray = (its ++ jts).toArray := by simp
  rw [ea]
  exact ⟨.ref _, _, I.lnew (t' := s.toks) (r1.append r2) (by rw [List.length_append]; omega), rfl, q _ I.fresh⟩
/-- a + b, lists -/
theorem eo_cat {ds es : List D} (ha : ED X ρ a (.lst ds)) (hb : ED X ρ b (.lst es)) (hl : ds.length + es.length ≤ sizeLine) : EO X ρ (.BinOp a .Add b pos) (.lst (ds ++ es)) := fun B0 B σ H0 H Q j k =>
  RE.of (pe_op op_catL pe_star pe_star) (ha B0 B σ H0 H _ j fun x G0 G g1 r1 => hb B0 B σ G0 G _ (j.grow g1) fun y L0 L g2 r2 => by
    obtain ⟨p, vs, rfl, h1, h2⟩ := DR.mono g2.s0 _ _ r1
    obtain ⟨q, ws, rfl, h3, h4⟩ := r2
    exact ⟨p, q, vs, ws, rfl, rfl, g2.sh.seq h1, g2.sh.seq h3, by rw [← DRs.length h2, ← DRs.length h4]; exact hl, fun z hz => k z _ L0 _ ((g1.trans g2).trans (JH.own g2.sh hz)) upd_same (g2.sh.free hz) ((g1.trans g2).sB.free hz) ⟨_, rfl, DRs.app h2 h4⟩⟩)
end
end DL
namespace DL
open PySem PySem.Spec PyProof.Rows L2
section
variable {X : Cx} {ρ : En} {pos : Pos} {a b e : Expr}
theorem op_notInSq (hu : X.A.units + 1 < cLine) : OpR X (compareOp .NotIn) (fun x y H Q => ∃ (a b : Addr) (kvs : List (List Key × V)) (k : List Key), x = .ref b ∧ y = .ref a ∧ Rd H a (.dT kvs) ∧ SqT X.K H b (k.map kV) ∧ Q (.bl (!(valV kvs k).isSome)) H) := by
  rintro pins s σ H x y v u Q I rx ry ⟨a, b, kvs, k, rfl, rfl, h1, h2, q⟩
  cases (show v = Value.ref b from rx); cases (show u = Value.ref a from ry)
  obtain ⟨z, hd, xs, rel, dd⟩ := dt_rd I.hok h1
  obtain ⟨its, r, ⟨o, e, c, n, dat⟩, _⟩ := I.tuple h2
  refine wpAny_notIn_heap (tupleKind_room_in1 hu) (k := k) ⟨o, its.toArray, n, e, c, dat, by simpa using items_are r⟩ hd dd ?_
  have qq := (rel.val k).isSome_eq
  rw [Option.isSome_map] at qq
  rw [← qq]
  exact ⟨.bl (!(valV kvs k).isSome), H, I.tok _, rfl, q⟩
theorem bx_inj {l m : List Bx} : l.map Bx.e = m.map Bx.e ↔ l = m := List.map_inj_right (f := Bx.e) (fun a b e => Bx.inj e)
theorem c2_eqBx {l m : List Bx} (hu : X.A.units + 64 < cLine) : C2 X .Eq (.tup (l.map Bx.e)) (.tup (m.map Bx.e)) (.bl (decide (l = m))) :=
  c2_eqC (n := 2) (m := 2) hu (.tup Bx.cms) (.tup Bx.cms) (by simp [bx_inj])
theorem c2_neBx {l m : List Bx} (hu : X.A.units + 64 < cLine) : C2 X .NotEq (.tup (l.map Bx.e)) (.tup (m.map Bx.e)) (.bl (!decide (l = m))) :=
  c2_neC (n := 2) (m := 2) hu (.tup Bx.cms) (.tup Bx.cms) (by simp [bx_inj])
end
end DL
namespace DL
open PySem PySem.Spec PyProof.Rows L2
/-- what the top says of a class: cn its name, fs its fields -/
structure Kl (K : PySem.W.Frag) (mg : Str → Option Value) (cn : Str) (fs : List Str) : Prop where
  ex : ∃ C, PySem.W.nsIn K mainGlobals cn = some (some (.ref C)) ∧ mg cn = some (.ref C) ∧ C8.InsC K C ∧ PySem.W.keepIn K (.ref C) = true ∧ ∀ f ∈ fs, NoAttr K C f
theorem kit_self {K : PySem.W.Frag} {C : Addr} : PySem.W.kitOne K (.ref C) (.ref C) = some true := by
  unfold PySem.W.kitOne
  exact if_pos (by first | rfl | simp | decide)
theorem zip_at {f : Str} : ∀ {ns : List Str} {vs : List V} {i : Nat} {v : V}, ns[i]? = some f → (ns.take i).contains f = false → vs[i]? = some v → (ns.zip vs).lookup f = some v
  | n :: ns, w :: vs, 0, v, h1, _, h3 => by
    simp only [List.getElem?_cons_zero, Option.some.injEq] at h1 h3
    subst h1; subst h3
    simp [List.lookup_cons]
  | n :: ns, w :: vs, i + 1, v, h1, h2, h3 => by
    simp only [List.getElem?_cons_succ] at h1 h3
    rw [List.take_succ_cons, List.contains_cons, Bool.or_eq_false_iff] at h2
    rw [List.zip_cons_cons, List.lookup_cons]
    rw [h2.1]
    exact zip_at h1 h2.2 h3
  | [], vs, i, v, h1, _, _ => by simp at h1
  | n :: ns, [], i, v, _, _, h3 => by simp at h3
theorem zip_none {m : Str} : ∀ {ns : List Str} {vs : List V}, ns.contains m = false → (ns.zip vs).lookup m = none
  | [], vs, _ => by simp
  | n :: ns, [], _ => by simp
  | n :: ns, v :: vs, h => by
    rw [List.contains_cons, Bool.or_eq_false_iff] at h
    rw [List.zip_cons_cons, List.lookup_cons, h.1]
    exact zip_none h.2
theorem putF_new {f : Str} {y : V} : ∀ {ns : List Str} {vs : List V}, ns.contains f = false → ns.length = vs.length → putF f y (ns.zip vs) = (ns ++ [f]).zip (vs ++ [y])
  | [], [], _, _ => rfl
  | n :: ns, v :: vs, h, hl => by
    rw [List.contains_cons, Bool.or_eq_false_iff] at h
    have hne : ¬ (n = f) := fun e => by rw [e] at h; simp at h
    show (if n = f then _ else (n, v) :: putF f y (ns.zip vs)) = _
    rw [if_neg hne, putF_new h.2 (by simpa using hl)]
    rfl
  | [], v :: vs, _, hl => by simp at hl
  | n :: ns, [], _, hl => by simp at hl
section
variable {X : Cx} {ρ : En} {e : Expr} {pos : Pos} {cn f : Str} {ns fs : List Str} {ds : List D} {d : D}
/-- e.f, e an instance that is shared -/
theorem ed_fld (i : Nat) (kl : Kl X.K X.mg cn fs) (he : ED X ρ e (.obj cn ns ds)) (hn : ns[i]? = some f := by rfl) (hd : ds[i]? = some d := by rfl) (hu : (ns.take i).contains f = false := by decide +kernel) (hf : f ∈ fs := by decide +kernel)
    (hb : attributeBase e f X.env (eval e X.env) = eval e X.env := by rfl) : ED X ρ (.Attribute e f pos) d := fun B0 B σ H0 H Q j k => by
  refine RE.of (pe_fld pe_star hb) (he B0 B σ H0 H _ j fun v G0 G g r => ?_)
  obtain ⟨a, C, dx, vs, rfl, hC, ha, hlen, hvs⟩ := r
  obtain ⟨C', hC', hm, hc, hk, hna⟩ := kl.ex
  rw [hC] at hC'; cases hC'
  obtain ⟨v, hv, rv⟩ := DRs.get hvs hd
  exact ⟨a, C, dx, _, v, rfl, g.sh _ _ ha, hc.cl, hna f hf, zip_at hn hu hv, k v G0 G g rv⟩
/-- self.f = e, a new field -/
theorem ws_setF (s : Nat) {a : Addr} {x : Str} {p pos' : Pos} {value : Expr} {Φ : Out → Prop} (kl : Kl X.K X.mg cn fs) (hρ : ρ[s]? = some (.ox [(a, .ins cn ns ds)] (.ad a))) (hv : ED X ρ value d) (hΦ : Φ (.nx (ρ.set s (.ox [(a, .ins cn (ns ++ [f]) (ds ++ [d]))] (.ad a)))))
    (hnew : ns.contains f = false := by decide +kernel) (hf : f ∈ fs := by decide +kernel) (hlt : ns.length < 1000 := by decide)
    (hN : X.N[s]? = some x := by rfl) (hvis : Vis X.env.scope x := by first | exact Or.inl rfl | exact Or.inr (Or.inl rfl) | exact Or.inr (Or.inr rfl)) (hdb : (x == ("__debug__" : Str)) = false := by decide) (hcd : (x == ("__classdict__" : Str)) = false := by decide)
    (hs : swapsWith value (some (.Attribute (.Name x p) f pos')) pos.line X.env = pure false := by rfl) : WS X (.Assign [.Attribute (.Name x p) f pos'] value pos) ρ Φ := fun B0 B σ H0 H Dn j k => by
  refine ⟨_, ps_fld (pe_var hN hvis hdb hcd) pe_star hs, hv B0 B σ H0 H _ j fun v G0 G g r => ?_⟩
  have j1 := j.grow g
  obtain ⟨ov, e1, ⟨v1, rfl, rv⟩, hcs, _⟩ := j1.get hρ
  cases (show v1 = .ref a from rv)
  obtain ⟨o, h1, h2, h3, h4⟩ := (hcs _ (List.mem_singleton_self _)).ex
  obtain ⟨vs, C, dx, rfl, hC, hlen, hvs⟩ := h4
  obtain ⟨C', hC', hm, hc, hk, hna⟩ := kl.ex
  rw [hC] at hC'; cases hC'
  have hl : (ns.zip vs).length < 1000 := by rw [List.length_zip]; omega
  refine ⟨_, e1, a, C, dx, _, rfl, h1, hc.cl, hna f hf, hl, ?_⟩
  rw [putF_new hnew hlen]
  have j2 := j1.put (c' := .ins cn (ns ++ [f]) (ds ++ [d])) (o := .ins C dx ((ns ++ [f]).zip (vs ++ [v]))) hρ (List.mem_singleton_self _) ⟨vs ++ [v], C, dx, rfl, hC, by simp [hlen], DRs.app hvs (DRs.one r)⟩
  have e : putC [(a, OC.ins cn ns ds)] a (.ins cn (ns ++ [f]) (ds ++ [d])) = [(a, .ins cn (ns ++ [f]) (ds ++ [d]))] := by simp [putC]
  rw [e] at j2
  exact k _ hΦ _ _ _ j2
end
/-- a heap without a -/
def er (H : Hp) (a : Addr) : Hp := fun b => if b = a then none else H b
theorem er_same {H : Hp} {a : Addr} : er H a a = none := if_pos rfl
theorem er_ne {H : Hp} {a b : Addr} (h : b ≠ a) : er H a b = H b := if_neg h
theorem er_sub {H : Hp} {a : Addr} : Same (er H a) H := fun b u e => by
  by_cases h : b = a
  · subst h; rw [er_same] at e; cases e
  · rwa [er_ne h] at e
/-- __init__'s promise: R of the arguments, the fields' names, the fields -/
def spI (K : PySem.W.Frag) (cn : Str) (R : List D → List Str → List D → Prop) : Sp := fun vs H Q _ => ∃ H0 a C dx ds ns es ws, vs = .ref a :: ws ∧ PySem.W.nsIn K mainGlobals cn = some (some (.ref C)) ∧ Same H0 H ∧ H a = some (.ins C dx []) ∧ H0 a = none ∧ DRs K H0 ds ws ∧ R ds ns es ∧
  ∀ H0' H' o, JH H0 (er H a) H0' H' → H' a = some o → H0' a = none → OCR K H0' (.ins cn ns es) o → Q .non H'
def enI (N : List Str) (a : Addr) (cn : Str) (ds : List D) : En := .ox [(a, .ins cn [] [])] (.ad a) :: (ds.map Sl.sh ++ List.replicate (N.length - (ds.length + 1)) Sl.no)
section
variable {P : Program} {w : World} {K : PySem.W.Frag} {mg : Str → Option Value} {base : Heap}
theorem j_startI {N : List Str} {H0 H : Hp} {a C dx : Addr} {cn : Str} {ds : List D} {vs : List V} (s : Same H0 H) (hC : PySem.W.nsIn K mainGlobals cn = some (some (.ref C))) (ha : H a = some (.ins C dx [])) (h0 : H0 a = none) (r : DRs K H0 ds vs) (hl : ds.length + 1 ≤ N.length) : J K H0 (er H a) (L2.start N (.ref a :: vs)) H0 H (enI N a cn ds) := by
  have hlen := DRs.length r
  have kind : ∀ (i : Nat) s, (enI N a cn ds)[i]? = some s → i = 0 ∨ s = .no ∨ ∃ d, s = .sh d := fun i s h => by
    cases i with
    | zero => exact .inl rfl
    | succ i =>
      refine .inr ?_
      unfold enI at h
      rw [List.getElem?_cons_succ] at h
      by_cases hi : i < ds.length
      · rw [List.getElem?_append_left (by simpa using hi), List.getElem?_map, show ds[i]? = some ds[i] by simp [hi]] at h
        cases h; exact .inr ⟨_, rfl⟩
      · rw [List.getElem?_append_right (by simp; omega), List.getElem?_replicate] at h
        split at h
        · cases h; exact .inl rfl
        · cases h
  refine ⟨⟨Same.refl _, s, er_sub, fun b o e _ h => h⟩, by simp [L2.start, enI, hlen], fun i sl ov h1 h2 => ?_, fun i j s1 s2 o1 o2 b h1 h2 _ _ w1 w2 => ?_⟩
  · cases i with
    | zero =>
      unfold enI at h1
      unfold L2.start at h2
      simp only [List.getElem?_cons_zero, Option.some.injEq, List.map_cons, List.cons_append] at h1 h2
      subst h1; subst h2
      refine ⟨⟨_, rfl, rfl⟩, fun p hp => ?_, by simp⟩
      rw [List.mem_singleton] at hp; subst hp
      exact ⟨_, ha, h0, er_same, [], C, dx, rfl, hC, rfl, rfl⟩
    | succ i =>
      unfold enI at h1
      unfold L2.start at h2
      simp only [List.getElem?_cons_succ, List.map_cons, List.cons_append] at h1 h2
      by_cases hi : i < ds.length
      · rw [List.getElem?_append_left (by simpa using hi), List.getElem?_map] at h1
        rw [List.getElem?_append_left (by simp; omega), List.getElem?_map] at h2
        obtain ⟨v, e1, e2⟩ := DRs.get r (show ds[i]? = some ds[i] by simp [hi])
        rw [show ds[i]? = some ds[i] by simp [hi]] at h1
        rw [e1] at h2
        cases h1; cases h2
        exact ⟨v, rfl, e2⟩
      · rw [List.getElem?_append_right (by simp; omega), List.getElem?_replicate] at h1
        split at h1
        · cases h1; trivial
        · cases h1
  · rcases kind i s1 h1 with e1 | e1
    · rcases kind j s2 h2 with e2 | e2
      · rw [e1, e2]
      · exact absurd w2 (Owns.none e2 b)
    · exact absurd w1 (Owns.none e1 b)
theorem fn_okI {x qual : Str} {st : Stmt} {f : Addr} {fd : FuncData} {N ps : List Str} {k : Nat} {cn : Str} {R : List D → List Str → List D → Prop} (F : Fun K x qual st f fd) (S : FnScope N ps (defScope st)) (hR : ∀ ds ns es, R ds ns es → ds.length + 1 = ps.length)
    (h : ∀ a ds ns es, R ds ns es → ∀ (cdv : Value) (A : Around) (outer : List Env) (s : Shared) (H : Hp) (E : XK), Room k (A.deeper (envOfC qual (defScope st) s.heap.objs.size f cdv)) →
      WSs (bx P w K mg base N qual st f cdv A outer s H E) (defBody st) (enI N a cn ds) (fun o => ∃ ρ es', o = .nx ρ ∧ ρ[0]? = some (.ox [(a, .ins cn ns es')] (.ad a)) ∧ ∀ H vs, DRs K H es' vs → DRs K H es vs)) : FnOk P w K mg base CX0 (k + 1) f fd ps (spI K cn R) := by
  refine F.ok S (fun vs H Q E hs => ?_) fun cdv A outer s H vs Q E hr hs => ?_
  · obtain ⟨H0, a, C, dx, ds, ns, es, ws, rfl, hC, s0, ha, h0, r, q, _⟩ := hs
    rw [List.length_cons, ← DRs.length r]; exact hR ds ns es q
  · obtain ⟨H0, a, C, dx, ds, ns, es, ws, rfl, hC, s0, ha, h0, r, q, kk⟩ := hs
    have hN : ds.length + 1 ≤ N.length := by
      have h1 := hR ds ns es q
      have h2 := congrArg List.length S.pre
      rw [List.length_take] at h2
      omega
    obtain ⟨t, h1, h2⟩ := h a ds ns es q cdv A outer s H E hr H0 (er H a) (L2.start N (.ref a :: ws)) H0 H (j_startI s0 hC ha h0 r hN) (Dn := { nx := fun _ H' => Q .non H', rt := Q }) fun o ho => by
      obtain ⟨ρ, es', rfl, hρ, hw⟩ := ho
      intro σ G0 G j
      obtain ⟨ov, e1, ⟨v, rfl, rv⟩, hcs, _⟩ := j.get hρ
      obtain ⟨o, g1, g2, g3, g4⟩ := (hcs _ (List.mem_singleton_self _)).ex
      obtain ⟨vs, C', dx', e1, e2, e3, e4⟩ := g4
      exact kk G0 G o j.hp g1 g2 ⟨vs, C', dx', e1, e2, e3, hw _ _ e4⟩
    exact ⟨t, h1, h2⟩
/-- a class that is made by calling it -/
structure FnI (P : Program) (w : World) (K : PySem.W.Frag) (mg : Str → Option Value) (base : Heap) (cn : Str) (k : Nat) (R : List D → List Str → List D → Prop) : Prop where
  ex : ∃ C f fd ps, PySem.W.nsIn K mainGlobals cn = some (some (.ref C)) ∧ mg cn = some (.ref C) ∧ Mk K C f ∧ FnOk P w K mg base CX0 k f fd ps (spI K cn R) ∧ Binds K fd ps []
theorem eo_make {X : Cx} {ρ : En} {e : Expr} {pos : Pos} {cn : Str} {k : Nat} {R : List D → List Str → List D → Prop} {es : List Expr} {ds zs : List D} {ns : List Str} {p : Pos} (G : FnI X.prog X.w X.K X.mg X.base cn k R) (hr : Room (k + 1) X.A) (hg : Gl X cn) (ha : AD X ρ (e :: es) ds) (hR : R ds ns zs)
    (hdb : (cn == ("__debug__" : Str)) = false := by decide +kernel) (he : starEach (e :: es) X.env = (false, eval e X.env) :: starEach es X.env := by rfl) (hpl : (backTo pos (starEach es X.env)).any (·.1) = false := by rfl) :
    EO X ρ (.Call (.Name cn p) (e :: es) [] pos) (.ins cn ns zs) := fun B0 B σ H0 H Q j kk => by
  obtain ⟨C, f, fd, ps, hC, hm, M, F, hb⟩ := G.ex
  refine RE.of (pe_make (E := E0) M F hr hg hm hb .nil pass0 pa_star hdb he hpl) (ha B0 B σ H0 H _ j fun vs G0 G g r => ?_)
  intro x dx hx hdx hne
  rw [List.append_nil]
  have g0x : G0 x = none := g.sh.free hx
  have g0d : G0 dx = none := g.sh.free hdx
  have s1 : Same G0 (upd (upd G dx (.own x)) x (.ins C dx [])) := fun b u q => by
    rw [upd_ne (ne_of_none q g0x), upd_ne (ne_of_none q g0d)]
    exact g.sh b u q
  have sE : ∀ b u, G b = some u → er (upd (upd G dx (.own x)) x (.ins C dx [])) x b = some u := fun b u q => by
    have n1 := ne_of_none q hx
    rw [er_ne n1, upd_ne n1, upd_ne (ne_of_none q hdx)]
    exact q
  refine ⟨G0, x, C, dx, ds, ns, zs, vs, rfl, hC, s1, upd_same, g0x, r, hR, fun L0 L o gg e1 e2 e3 => ⟨rfl, ?_⟩⟩
  exact kk x o L0 L (g.trans ⟨gg.s0, gg.sh, fun b u q => gg.sB b u (sE b u q), fun b u q nt q' => gg.fr b u (sE b u q) nt q'⟩) e1 e2 (g.sB.free hx) e3
structure FnM (P : Program) (w : World) (K : PySem.W.Frag) (mg : Str → Option Value) (base : Heap) (cn m : Str) (k : Nat) (R : List D → D → Prop) : Prop where
  ex : ∃ C f fd ps, PySem.W.nsIn K mainGlobals cn = some (some (.ref C)) ∧ Cls K C ∧ Meth K C m f ∧ FnOk P w K mg base CX0 k f fd ps (spR K R) ∧ Binds K fd ps []
theorem ed_meth {X : Cx} {ρ : En} {o e : Expr} {pos apos : Pos} {cn m : Str} {k : Nat} {R : List D → D → Prop} {es : List Expr} {ds fds : List D} {ns : List Str} {d : D} {pl : Sem Bool} (G : FnM X.prog X.w X.K X.mg X.base cn m k R) (hr : Room k X.A) (ho : ED X ρ o (.obj cn ns fds)) (ha : AD X ρ (e :: es) ds) (hR : R (.obj cn ns fds :: ds) d)
    (hm : ns.contains m = false := by decide +kernel)
    (hst : starEach (e :: es) X.env = (false, eval e X.env) :: starEach es X.env := by rfl) (hpl : (backTo pos (starEach es X.env)).any (·.1) = false := by rfl)
    (ht : eval (.Call (.Attribute o m apos) (e :: es) [] pos) X.env = (do
      let ov ← eval o X.env
      standAt apos.atName
      let (f, first) ← holding [ov] (getMethod ov m pl)
      callWith pos f first (backTo pos (starEach (e :: es) X.env)) (backToKw pos (keywordEach [] X.env))) := by rfl) :
    ED X ρ (.Call (.Attribute o m apos) (e :: es) [] pos) d := fun B0 B σ H0 H Q j kk => by
  obtain ⟨C, f, fd, ps, hC, hc, hmt, F, hb⟩ := G.ex
  refine RE.of (pe_meth (E := E0) pe_star hc hmt F hr hb .nil pass0 pa_star hst hpl ht) (ho B0 B σ H0 H _ j fun v G0 G g r => ?_)
  obtain ⟨a, C', dx, vs, rfl, hC', hA, hlen, hvs⟩ := id r
  rw [hC] at hC'; cases hC'
  refine ⟨a, dx, _, rfl, g.sh _ _ hA, zip_none hm, ha B0 B σ G0 G _ (j.grow g) fun ws L0 L g2 r2 => ?_⟩
  rw [List.append_nil]
  exact ⟨L0, .obj cn ns fds :: ds, d, g2.sh, ⟨_, _, rfl, DR.mono g2.s0 _ _ r, r2⟩, hR, fun v M0 M g3 r3 => kk v M0 M ((g.trans g2).trans g3) r3⟩
end
end DL
namespace DL
open PySem PySem.Spec PyProof.Rows L2
local instance (priority := 2000) keyBEq : BEq Key := instBEqOfDecidableEq
/-- the keys, each once -/
def stepK (σ : List Key) (v : Key) : List Key := if v ∈ σ then σ else σ ++ [v]
def ddK (ks : List Key) : List Key := ks.foldl stepK []
theorem snoc_ind {α : Type} {P : List α → Prop} (h0 : P []) (hs : ∀ l x, P l → P (l ++ [x])) : ∀ l, P l := fun l => by
  have : ∀ n, ∀ l : List α, l.length = n → P l := fun n => by
    induction n with
    | zero => intro l hl; rw [List.length_eq_zero_iff.mp hl]; exact h0
    | succ n ih =>
      intro l hl
      have hne : l ≠ [] := fun e => by rw [e] at hl; cases hl
      rw [← List.dropLast_concat_getLast hne]
      exact hs _ _ (ih _ (by rw [List.length_dropLast, hl]; rfl))
  exact this _ l rfl
/-- an int, a text as a key -/
def kD : Key → D
  | .inl i => .int i
  | .inr x => .str x
theorem kD_val {K : PySem.W.Frag} {H : Hp} {k : Key} {v : V} (h : DR K H (kD k) v) : v = kV k := by
  cases k with
  | inl i => exact h
  | inr x => exact h
end DL
namespace DL
open PySem PySem.Spec PyProof.Rows L2
open PySem.W (EachIs AllAlike Sortable KeepsBut SortsAt KeyedOut dataLe dataKind alike sortingHeap sortingHeap_old)
section
variable {X : Cx} {ρ : En} {pos : Pos} {β : Type} {bs : List β} {enc : β → D}
theorem c2_leS {i j : Str} : C2 X .LtE (.str i) (.str j) (.bl (!decide (j.cps.toList < i.cps.toList))) := ⟨_, op_le_str, fun H0 H x y Q s r1 r2 k => by
  cases (show x = .str i from r1); cases (show y = .str j from r2)
  exact ⟨i, j, rfl, rfl, k _ H0 H (JH.refl s) rfl⟩⟩
theorem bc_strI {i : Int} (h : i.natAbs.log2 < 1920) : BC X (.type "str") [.int i] (.str (toString i)) := bc_keep call_str_int _ (fun _ => rfl) fun _ _ vs _ _ r q => by
  obtain ⟨x, rfl, h1⟩ := r.one'
  cases (show x = .int i from h1)
  exact ⟨i, rfl, h, q⟩
/-- the signs of a text, each a text -/
def sgn (c : Nat) : Str := ⟨#[c]⟩
theorem id_str {tg e : Expr} {z : Str} (h : ED X ρ e (.str z)) : ID X ρ tg e (z.cps.toList.map fun c => .str (sgn c)) := fun B0 B σ H0 H R j k =>
  ⟨_, pi_str pe_star, h B0 B σ H0 H _ j fun v G0 G g r => ⟨z, r, k _ G0 G g ⟨_, _, (by rw [List.length_map, Array.length_toList]; exact walk_str (z := z)), fun _ _ _ _ => trivial, fun i H1 H x H' d hd s1 s2 y => by
    obtain ⟨rfl, c, hc, rfl⟩ := y
    rw [List.getElem?_map, Array.getElem?_toList, hc] at hd
    cases hd
    exact ⟨H1, JH.refl s2, rfl⟩⟩⟩⟩
theorem c2_inStr {x : Str} {ys : List Str} {d : D} (hd : SeqD d (ys.map D.str)) : C2 X .In (.str x) d (.bl (decide (x ∈ ys))) := ⟨_, op_in_seq, fun H0 H u v Q s r1 r2 k => by
  cases (show u = .str x from r1)
  have hf : (ys.map V.str).all flatV = true := by simp [flatV]
  have hi : inV (.str x) (ys.map V.str) = decide (x ∈ ys) := by
    unfold inV
    rw [Bool.eq_iff_iff]
    simp only [List.any_eq_true, List.mem_map, decide_eq_true_eq]
    constructor
    · rintro ⟨v, ⟨y, hy, rfl⟩, h⟩
      have : y = x := by simpa [eqV] using h
      exact this ▸ hy
    · intro h
      exact ⟨.str x, ⟨x, h, rfl⟩, by simp [eqV]⟩
  have fin : Q (.bl (if false = true then !inV (.str x) (ys.map V.str) else inV (.str x) (ys.map V.str))) H := by
    rw [hi]; exact k _ H0 H (JH.refl s) rfl
  cases hd with
  | lst =>
    obtain ⟨a, vs, rfl, h1, h2⟩ := r2
    rw [DRs.strs h2] at h1
    exact ⟨a, _, rfl, .inl (s.seq h1), rfl, hf, fin⟩
  | tup =>
    obtain ⟨a, vs, rfl, h1, h2⟩ := r2
    rw [DRs.strs h2] at h1
    exact ⟨a, _, rfl, .inr (Same.seqT s h1), rfl, hf, fin⟩⟩
end
end DL
namespace DL
open PySem PySem.Spec PyProof.Rows L2
theorem Paired.mono {α β : Type} {R R' : α → β → Prop} (m : ∀ a b, R a b → R' a b) : ∀ {as : List α} {bs : List β}, Paired R as bs → Paired R' as bs
  | _, _, .nil => .nil
  | _, _, .cons h t => .cons (m _ _ h) (Paired.mono m t)
section
variable {X : Cx} {ρ : En} {pos : Pos}
/-- z[lo:hi], z a text -/
theorem ed_sliceS {e : Expr} {lo hi : Option Expr} {p q : Option Int} {z : Str} {p2 : Pos} (he : ED X ρ e (.str z)) (hz : z.length ≤ sizeLine) (hl : Part X ρ lo p) (hh : Part X ρ hi q) : ED X ρ (.Subscript e (.Slice lo hi none p2) pos) (.str (cutS z p q)) := fun B0 B σ H0 H Q j k =>
  RE.of (pe_slice sl_str pe_star po_star po_star) (he B0 B σ H0 H _ j fun v G0 G g1 r => hl.run (j.grow g1) fun L0 L g2 => hh.run ((j.grow g1).grow g2) fun M0 M g3 =>
    ⟨z, r, hz, k _ M0 M ((g1.trans g2).trans g3) rfl⟩)
/-- t[lo:hi], t a tuple -/
theorem ed_sliceT {e : Expr} {lo hi : Option Expr} {p q : Option Int} {ds : List D} {p2 : Pos} (he : ED X ρ e (.tup ds)) (hl : Part X ρ lo p) (hh : Part X ρ hi q) : ED X ρ (.Subscript e (.Slice lo hi none p2) pos) (.tup (cutD ds p q)) := fun B0 B σ H0 H Q j k =>
  RE.of (pe_slice sl_tupA pe_star po_star po_star) (he B0 B σ H0 H _ j fun v G0 G g1 r => hl.run (j.grow g1) fun L0 L g2 => hh.run ((j.grow g1).grow g2) fun M0 M g3 => by
    obtain ⟨a, vs, rfl, h1, h2⟩ := r
    have g := g2.trans g3
    have h2' := DRs.mono g.s0 _ _ h2
    have h1' := Same.seqT (g.sh) (Same.seqT g.s0 h1)
    refine ⟨a, vs, rfl, h1', fun hw => k _ M0 M (g1.trans g) ⟨a, _, rfl, Same.seqT g.s0 h1, by
      have e : cutD ds p q = ds := by
        unfold cutD
        rw [DRs.length h2', hw.1, hw.2, List.drop_zero, Nat.sub_zero, ← DRs.length h2', List.take_length]
      rw [e]; exact h2'⟩, fun hw pp hp => ?_⟩
    have g4 : JH M0 M (upd M0 pp (.tup (cutV vs p q))) (upd M pp (.tup (cutV vs p q))) := JH.new g.sh hp
    exact k _ _ _ ((g1.trans g).trans g4) ⟨pp, _, rfl, SqT.of upd_same, DRs.mono g4.s0 _ _ (DRs.cut h2' _ _)⟩)
end
end DL
namespace DL
open PySem PySem.Spec PyProof.Rows L2
theorem one_lt (a b : Nat) : (([a] : List Nat) < [b]) ↔ a < b := by
  constructor
  · intro h
    cases h with
    | rel h => exact h
    | cons h => cases h
  · exact fun h => List.Lex.rel h
theorem chX {x y : Str} {lo hi : Nat} (e1 : x.cps.toList = [lo]) (e2 : y.cps.toList = [hi]) (c : Nat) : ((!decide ((⟨#[c]⟩ : Str).cps.toList < x.cps.toList)) && (!decide (y.cps.toList < (⟨#[c]⟩ : Str).cps.toList))) = (decide (lo ≤ c) && decide (c ≤ hi)) := by
  rw [Bool.eq_iff_iff]
  simp only [Bool.and_eq_true, Bool.not_eq_true', decide_eq_false_iff_not, decide_eq_true_eq]
  rw [e1, e2]
  show ¬ (([c] : List Nat) < [lo]) ∧ ¬ (([hi] : List Nat) < [c]) ↔ _
  rw [one_lt, one_lt]
  omega
theorem chA (c : Nat) : ((!decide ((⟨#[c]⟩ : Str).cps.toList < (PySem.Str.ofString "a").cps.toList)) && (!decide ((PySem.Str.ofString "z").cps.toList < (⟨#[c]⟩ : Str).cps.toList))) = (decide (97 ≤ c) && decide (c ≤ 122)) :=
  chX (by decide +kernel) (by decide +kernel) c
theorem ch0 (c : Nat) : ((!decide ((⟨#[c]⟩ : Str).cps.toList < (PySem.Str.ofString "0").cps.toList)) && (!decide ((PySem.Str.ofString "9").cps.toList < (⟨#[c]⟩ : Str).cps.toList))) = (decide (48 ≤ c) && decide (c ≤ 57)) :=
  chX (by decide +kernel) (by decide +kernel) c
end DL
namespace DL
open PySem PySem.Spec PyProof.Rows L2
open PySem.W (AllAlike Sortable dataLe alike)
def loB (c : Nat) : Bool := decide (97 ≤ c) && decide (c ≤ 122)
def chB (c : Nat) : Bool := loB c || (decide (48 ≤ c) && decide (c ≤ 57))
def nameB (x : Str) : Bool := (decide (1 ≤ x.length) && decide (x.length ≤ 12)) && (loB (x.cps.toList.getD 0 0) && x.cps.toList.all chB)
structure Dev where
  k : Str
  g : Int
  a : Int
  b : Int
  w : Int
  l : Int
deriving DecidableEq
def Dev.e (v : Dev) : D := .tup [.str v.k, .int v.g, .int v.a, .int v.b, .int v.w, .int v.l]
abbrev Nm := Int × Str
structure DevOk (n : Int) (v : Dev) : Prop where
  k : v.k = ("n" : Str) ∨ v.k = ("p" : Str)
  g : 0 ≤ v.g ∧ v.g < n
  e : 0 ≤ v.a ∧ v.a ≤ v.b ∧ v.b < n
  w : 1 ≤ v.w
  l : 1 ≤ v.l
structure CirOk (n : Int) (N : List Nm) (V : List Dev) : Prop where
  nn : 0 ≤ n ∧ n ≤ 200
  nm : ∀ q ∈ N, (0 ≤ q.1 ∧ q.1 < n) ∧ nameB q.2 = true
  d1 : (N.map (·.1)).Nodup
  d2 : (N.map (·.2)).Nodup
  nl : N.length ≤ 1000
  vl : V.length ≤ 200
  dv : ∀ v ∈ V, DevOk n v
theorem at_first {x : Str} {k : Bool} (h : (!(decide ((1 : Int) ≤ (x.length : Int)) && k)) = false) : atI x.cps.toList 0 = some (x.cps.toList.getD 0 0) := by
  have h1 : 1 ≤ x.length := by
    simp only [Bool.not_eq_false', Bool.and_eq_true, decide_eq_true_eq] at h
    omega
  refine atI_nn (by decide) ?_
  have : (0 : Int).toNat < x.cps.toList.length := by rw [Array.length_toList]; exact h1
  rw [List.getElem?_eq_getElem this, List.getD_eq_getElem?_getD, List.getElem?_eq_getElem (by exact this)]
  rfl
theorem name_no {x : Str} (h : ((!(decide ((1 : Int) ≤ (x.length : Int)) && decide ((x.length : Int) ≤ 12))) || (!(decide (97 ≤ x.cps.toList.getD 0 0) && decide (x.cps.toList.getD 0 0 ≤ 122)))) = true) : nameB x = false := by
  unfold nameB loB
  rw [show decide (1 ≤ x.length) = decide ((1 : Int) ≤ (x.length : Int)) from decide_eq_decide.mpr (by omega), show decide (x.length ≤ 12) = decide ((x.length : Int) ≤ 12) from decide_eq_decide.mpr (by omega)]
  revert h
  generalize (decide ((1 : Int) ≤ (x.length : Int)) && decide ((x.length : Int) ≤ 12)) = p
  generalize (decide (97 ≤ x.cps.toList.getD 0 0) && decide (x.cps.toList.getD 0 0 ≤ 122)) = q
  cases p <;> cases q <;> simp
theorem name_yes {x : Str} (h : ((!(decide ((1 : Int) ≤ (x.length : Int)) && decide ((x.length : Int) ≤ 12))) || (!(decide (97 ≤ x.cps.toList.getD 0 0) && decide (x.cps.toList.getD 0 0 ≤ 122)))) = false) : nameB x = (x.cps.toList.map chB).all id := by
  unfold nameB loB
  rw [show decide (1 ≤ x.length) = decide ((1 : Int) ≤ (x.length : Int)) from decide_eq_decide.mpr (by omega), show decide (x.length ≤ 12) = decide ((x.length : Int) ≤ 12) from decide_eq_decide.mpr (by omega)]
  revert h
  generalize (decide ((1 : Int) ≤ (x.length : Int)) && decide ((x.length : Int) ≤ 12)) = p
  generalize (decide (97 ≤ x.cps.toList.getD 0 0) && decide (x.cps.toList.getD 0 0 ≤ 122)) = q
  cases p <;> cases q <;> simp [List.all_map]
def devB (n : Int) (v : Dev) : Bool := (decide (v.k ∈ (["n", "p"] : List Str)) && ((decide (0 ≤ v.g) && decide (v.g < n)) && ((decide (0 ≤ v.a) && (decide (v.a ≤ v.b) && decide (v.b < n))) && (decide (1 ≤ v.w) && decide (1 ≤ v.l)))))
theorem bc_lenSeq {X : Cx} {d : D} {ds : List D} (h : SeqD d ds) : BC X (.builtin "len") [d] (.int ds.length) := by
  cases h with
  | lst => exact bc_lenL
  | tup => exact bc_lenT
theorem bc_tupSeq {X : Cx} {d : D} {ds : List D} (h : SeqD d ds) : BC X (.type "tuple") [d] (.tup ds) := by
  cases h with
  | lst => exact bc_tupL
  | tup => exact bc_tupT
theorem nameB_len {x : Str} (h : nameB x = true) : x.length ≤ 12 := by
  unfold nameB at h
  simp only [Bool.and_eq_true, decide_eq_true_eq] at h
  exact h.1.2
end DL
namespace DL
open PySem PySem.Spec PyProof.Rows L2
section
variable {X : Cx} {ρ : En} {pos : Pos}
theorem c2_inInts {i : Int} {ns : List Int} : C2 X .In (.int i) (.lst (ns.map .int)) (.bl (decide (i ∈ ns))) := ⟨_, op_in_seq, fun H0 H u v Q s r1 r2 k => by
  cases (show u = .int i from r1)
  obtain ⟨a, vs, rfl, h1, h2⟩ := r2
  rw [DRs.ints h2] at h1
  have hi : inV (.int i) (ns.map V.int) = decide (i ∈ ns) := by
    unfold inV
    rw [Bool.eq_iff_iff]
    simp only [List.any_eq_true, List.mem_map, decide_eq_true_eq]
    constructor
    · rintro ⟨v, ⟨y, hy, rfl⟩, h⟩
      have : y = i := by simpa [eqV] using h
      exact this ▸ hy
    · intro h
      exact ⟨.int i, ⟨i, h, rfl⟩, by simp [eqV]⟩
  refine ⟨a, _, rfl, .inl (s.seq h1), rfl, by simp [flatV], ?_⟩
  rw [hi]
  exact k _ H0 H (JH.refl s) rfl⟩
end
end DL
namespace DL
open PySem PySem.Spec PyProof.Rows L2
def preOk (x : Str) : Bool := (decide (1 ≤ x.length) && decide (x.length ≤ 4)) && (loB (x.cps.toList.getD 0 0) && x.cps.toList.all chB)
def digB (c : Nat) : Bool := decide (48 ≤ c) && decide (c ≤ 57)
theorem dig_all : ∀ a : Fin 64, let x := Str.ofString (toString ((a.val : Nat) : Int)); (decide (1 ≤ x.length) && decide (x.length ≤ 2) && x.cps.toList.all digB) = true := by decide +kernel
theorem all_app {x y : Str} {p : Nat → Bool} : (x ++ y).cps.toList.all p = (x.cps.toList.all p && y.cps.toList.all p) := by
  show (x.cps ++ y.cps).toList.all p = _
  rw [Array.toList_append, List.all_append]
theorem len_app (x y : Str) : (x ++ y).length = x.length + y.length := Array.size_append
theorem cps_app (x y : Str) : (x ++ y).cps.toList = x.cps.toList ++ y.cps.toList := by
  show (x.cps ++ y.cps).toList = _
  rw [Array.toList_append]
theorem dig_ok {n : Nat} (h : n < 64) : (1 ≤ (Str.ofString (toString (n : Int))).length ∧ (Str.ofString (toString (n : Int))).length ≤ 2) ∧ (Str.ofString (toString (n : Int))).cps.toList.all digB = true := by
  have := dig_all ⟨n, h⟩
  simp only [Bool.and_eq_true, decide_eq_true_eq] at this
  exact this
theorem chB_of {c : Nat} (h : digB c = true) : chB c = true := by
  unfold chB; unfold digB at h; rw [h, Bool.or_true]
def kindOf (r : Int) : Str := if r % 2 = 0 then "n" else "p"
theorem log_small {n m : Nat} (h : n < m) (hm : m ≤ 100) : ((n : Int)).natAbs.log2 < 1920 := by
  rw [Int.natAbs_natCast]
  by_cases h0 : n = 0
  · subst h0; decide
  · rw [Nat.log2_lt h0]
    have : n < 2 ^ 7 := by omega
    exact Nat.lt_of_lt_of_le this (Nat.pow_le_pow_right (by decide) (show 7 ≤ 1920 by omega))
end DL
namespace DL
open PySem PySem.Spec PyProof.Rows L2
local instance (priority := 2000) keyBEq26 : BEq Key := instBEqOfDecidableEq
end DL
namespace DL
open PySem PySem.Spec PyProof.Rows L2
/-- behind an except suite, its name is gone -/
def Aft (i : Nat) (Φ : Out → Prop) : Out → Prop
  | .nx ρ => Φ (.nx (ρ.set i .no))
  | .bk ρ => Φ (.bk (ρ.set i .no))
  | .ct ρ => Φ (.ct (ρ.set i .no))
  | o => Φ o
section
variable {X : Cx} {ρ ρx : En} {pos : Pos} {Φ : Out → Prop}
/-- try: body, where nothing is raised -/
theorem ws_try0 {body : List Stmt} {h0 : ExceptHandler} {hs : List ExceptHandler} (h : WSs X body ρ Φ) (hx : X.nox = X := by rfl) : WS X (.Try body (h0 :: hs) [] [] pos) ρ Φ := fun B0 B σ H0 H Dn j k =>
  ⟨_, ps_try_thru0 (t := RSs X body) (by rw [hx]; exact pss_star), h B0 B σ H0 H Dn j k⟩
end
end DL
namespace DL
open PySem PySem.Spec PyProof.Rows L2
/-- the class named cn is caught by except xn -/
structure Xm (K : PySem.W.Frag) (mg : Str → Option Value) (cn xn : Str) : Prop where
  ex : ∃ C D, PySem.W.nsIn K mainGlobals cn = some (some (.ref C)) ∧ mg xn = some (.ref D) ∧ PySem.W.exmOne K (.ref C) (.ref D) = some true
/-- isinstance(e, c), e of the class named cn -/
structure Xi (K : PySem.W.Frag) (mg : Str → Option Value) (cn c : Str) (b : Bool) : Prop where
  ex : ∃ C D, PySem.W.nsIn K mainGlobals cn = some (some (.ref C)) ∧ mg c = some (.ref D) ∧ PySem.W.kitOne K (.ref C) (.ref D) = some b
end DL
namespace DL
open PySem PySem.Spec PyProof.Rows L2
theorem putF_old {f : Str} {y : V} : ∀ {ns : List Str} {vs : List V} {m : Nat}, ns[m]? = some f → (ns.take m).contains f = false → ns.length = vs.length → putF f y (ns.zip vs) = ns.zip (vs.set m y)
  | n :: ns, v :: vs, 0, h, _, hl => by
    simp only [List.getElem?_cons_zero, Option.some.injEq] at h
    subst h
    show (if n = n then (n, y) :: ns.zip vs else _) = _
    rw [if_pos rfl]; rfl
  | n :: ns, v :: vs, m + 1, h, hc, hl => by
    rw [List.take_succ_cons, List.contains_cons, Bool.or_eq_false_iff] at hc
    have hne : ¬ (n = f) := fun e => by rw [e] at hc; simp at hc
    show (if n = f then _ else (n, v) :: putF f y (ns.zip vs)) = _
    rw [if_neg hne, putF_old (by simpa using h) hc.2 (by simpa using hl)]
    rfl
  | [], _, _, h, _, _ => by simp at h
  | n :: ns, [], _, _, _, hl => by simp at hl
end DL
namespace DL
open PySem PySem.Spec PyProof.Rows L2
theorem kit_ty {K : PySem.W.Frag} {C : Addr} {T : String} {b : Bool} (h4 : PySem.W.subIn K (.ref C) (.type T) = some b) (hm : PySem.W.kitMeta T = true := by decide +kernel) : PySem.W.kitOne K (.ref C) (.type T) = some b := by
  unfold PySem.W.kitOne
  rw [if_neg (show ¬ ((Value.ref C == Value.type T) = true) from Bool.false_ne_true)]
  show (if PySem.W.kitMeta T = true then PySem.W.subIn K (.ref C) (.type T) else none) = some b
  rw [if_pos hm]; exact h4
end DL
namespace DL
open PySem PySem.Spec PyProof.Rows L2
def layN : List Str := ["well", "active", "poly", "contact", "metal", "via", "top"]
def labN : List Str := ["active", "poly", "metal", "top"]
abbrev Shp := Str × Bx
def shE (s : Shp) : D := .tup [.str s.1, s.2.e]
def shB (s : Shp) : Bool := decide (s.1 ∈ layN) && (decide (s.2.a < s.2.c) && decide (s.2.b < s.2.d))
structure Lab where
  n : Str
  l : Str
  x : Int
  y : Int
def Lab.e (v : Lab) : D := .tup [.str v.n, .str v.l, .int v.x, .int v.y]
def labB (v : Lab) : Bool := nameB v.n && decide (v.l ∈ labN)
structure Pla where
  n : Str
  t : Int
  dx : Int
  dy : Int
  c : Int
  r : Int
  sx : Int
  sy : Int
def Pla.e (v : Pla) : D := .tup [.str v.n, .tup [.int v.t, .int v.dx, .int v.dy], .int v.c, .int v.r, .int v.sx, .int v.sy]
def plaB (v : Pla) : Bool := nameB v.n && ((decide (0 ≤ v.t) && decide (v.t < 8)) && ((decide (1 ≤ v.c) && decide (v.c ≤ 100)) && (decide (1 ≤ v.r) && decide (v.r ≤ 100))))
/-- what stands in a cell -/
abbrev celV (n : Str) (S : List Shp) (L : List Lab) (P : List Pla) : List D := [.str n, .tup (S.map shE), .tup (L.map Lab.e), .tup (P.map Pla.e)]
abbrev celD (n : Str) (S : List Shp) (L : List Lab) (P : List Pla) : D := .obj "Cell" ["name", "shapes", "labels", "placements"] (celV n S L P)
def celB (n : Str) (S : List Shp) (L : List Lab) (P : List Pla) : Bool := nameB n && (S.all shB && (L.all labB && P.all plaB))
structure CelOk (n : Str) (S : List Shp) (L : List Lab) (P : List Pla) : Prop where
  n : nameB n = true
  s : ∀ x ∈ S, shB x = true
  l : ∀ x ∈ L, labB x = true
  p : ∀ x ∈ P, plaB x = true
theorem CelOk.b {n : Str} {S : List Shp} {L : List Lab} {P : List Pla} (ok : CelOk n S L P) : celB n S L P = true := by
  unfold celB
  rw [ok.n, List.all_eq_true.mpr ok.s, List.all_eq_true.mpr ok.l, List.all_eq_true.mpr ok.p]; rfl
def layAt (d : Int) : Str := layN.getD (d % 7).toNat ""
theorem layAt_mem (d : Int) : layAt d ∈ layN := by
  unfold layAt
  have h1 := Int.emod_nonneg d (b := 7) (by decide)
  have h2 := Int.emod_lt_of_pos d (b := 7) (by decide)
  have hi : (d % 7).toNat < layN.length := by show _ < 7; omega
  rw [List.getD_eq_getElem?_getD, List.getElem?_eq_getElem hi]
  exact List.getElem_mem hi
def lab4 (d : Int) : Str := labN.getD (d % 4).toNat ""
theorem lab4_mem (d : Int) : lab4 d ∈ labN := by
  unfold lab4
  have h1 := Int.emod_nonneg d (b := 4) (by decide)
  have h2 := Int.emod_lt_of_pos d (b := 4) (by decide)
  have hi : (d % 4).toNat < labN.length := by show _ < 4; omega
  rw [List.getD_eq_getElem?_getD, List.getElem?_eq_getElem hi]
  exact List.getElem_mem hi
theorem at_getC {α : Type} {xs : List α} {f : α → D} {i : Int} {a : α} (h : 0 ≤ i ∧ i < xs.length) : atI (xs.map f) i = some (f (xs.getD i.toNat a)) := by
  have hi : i.toNat < xs.length := by omega
  refine atI_nn h.1 ?_
  rw [List.getElem?_map, List.getElem?_eq_getElem hi, List.getD_eq_getElem?_getD, List.getElem?_eq_getElem hi]
  rfl
def qSh (c m : Int) (k : Nat) : Shp := (layAt (dr c (3 * m + 1) (3 * (k : Int) + 2)), boxOf (dr c (3 * m + 1) (3 * (k : Int))) (dr c (3 * m + 1) (3 * (k : Int) + 1)))
def qShL (c m : Int) (i : Nat) : List Shp := (List.range i).map (qSh c m)
theorem qShL_succ (c m : Int) (i : Nat) : qShL c m (i + 1) = qShL c m i ++ [qSh c m i] := by unfold qShL; rw [List.range_succ, List.map_append]; rfl
theorem qShL_len (c m : Int) (i : Nat) : (qShL c m i).length = i := by unfold qShL; rw [List.length_map, List.length_range]
def qCnt3 (c m : Int) : Nat := (dr c (3 * m + 1) (3 * m) % (m + 1)).toNat
theorem qCnt3_le {c m : Int} (h : 0 ≤ m) : (qCnt3 c m : Int) ≤ m := by
  have h1 := Int.emod_nonneg (dr c (3 * m + 1) (3 * m)) (b := m + 1) (by omega)
  have h2 := Int.emod_lt_of_pos (dr c (3 * m + 1) (3 * m)) (b := m + 1) (by omega)
  unfold qCnt3; omega
theorem qSh_ok (c m : Int) (k : Nat) : shB (qSh c m k) = true := by
  have h := box_lo (dr c (3 * m + 1) (3 * (k : Int))) (dr c (3 * m + 1) (3 * (k : Int) + 1))
  have hm := layAt_mem (dr c (3 * m + 1) (3 * (k : Int) + 2))
  unfold shB
  rw [Bool.and_eq_true, Bool.and_eq_true, decide_eq_true_eq, decide_eq_true_eq, decide_eq_true_eq]
  exact ⟨hm, show bx0 _ < bx1 _ by omega, show by0 _ < by1 _ _ by omega⟩
def qLa (c m : Int) (k : Nat) : Lab := ⟨nmOf (dr c (3 * m + 1) (3 * (k : Int))), lab4 (dr c (3 * m + 1) (3 * (k : Int) + 1)), dr c (3 * m + 1) (3 * (k : Int) + 2) % 17 - 3, dr c (3 * m + 1) (3 * (k : Int) + 2) / 17 % 17 - 3⟩
def qLaL (c m : Int) (i : Nat) : List Lab := (List.range i).map (qLa c m)
theorem qLaL_succ (c m : Int) (i : Nat) : qLaL c m (i + 1) = qLaL c m i ++ [qLa c m i] := by unfold qLaL; rw [List.range_succ, List.map_append]; rfl
theorem qLaL_len (c m : Int) (i : Nat) : (qLaL c m i).length = i := by unfold qLaL; rw [List.length_map, List.length_range]
theorem al_no {α : Type} {p : α → Bool} {l : List α} (h : ∀ x ∈ l, p x = true) (h2 : (!((l.map p).all id)) = true) : False := by
  rw [List.all_map] at h2
  have : l.all p = true := List.all_eq_true.mpr h
  have h3 : (!(l.all p)) = true := h2
  rw [this] at h3
  cases h3
def MD : Nat → D → Prop
  | 0, d => (∃ i, d = .int i) ∨ ∃ z, d = .str z
  | k + 1, d => ((∃ i, d = .int i) ∨ ∃ z, d = .str z) ∨ ∃ es, d = .tup es ∧ es.length ≤ 1000 ∧ ∀ e ∈ es, MD k e
class MdC (k : Nat) (d : D) (P : outParam Prop) where
  out : MD k d → P
instance (d : D) : MdC 0 d ((∃ i, d = .int i) ∨ ∃ z, d = .str z) := ⟨fun h => h⟩
instance (k : Nat) (d : D) : MdC (k + 1) d ((∃ i, d = .int i) ∨ (∃ z, d = .str z) ∨ ∃ es, d = .tup es ∧ es.length ≤ 1000 ∧ ∀ e ∈ es, MD k e) := ⟨fun h => by
  rcases h with (h | h) | h
  · exact .inl h
  · exact .inr (.inl h)
  · exact .inr (.inr h)⟩
theorem getD_mem {α : Type} {xs : List α} {i : Int} {a : α} (h : 0 ≤ i ∧ i < xs.length) : xs.getD i.toNat a ∈ xs := by
  have hi : i.toNat < xs.length := by omega
  rw [List.getD_eq_getElem?_getD, List.getElem?_eq_getElem hi]
  exact List.getElem_mem hi
structure Rw where
  n : Str
  S : List Shp
  L : List Lab
  P : List Pla
def rwC (r : Rw) : D := .tup [.str r.n, .lst (r.S.map shE), .lst (r.L.map Lab.e), .lst (r.P.map Pla.e)]
def qDr (ns : List Int) (f : Int) (k : Nat) (i : Int) : Int := dr (cellAt ns (f + 3 * (k : Int))) 20 i
def qNam (ns : List Int) (f : Int) (k : Nat) : Str := nmOf (qDr ns f k 19) ++ Str.ofString (toString (k : Int))
def col5 (d : Int) : Int := ([1, 1, 1, 2, 3] : List Int).getD (d % 5).toNat 0
def lin3 (d : Int) : Int := ([1, 1, 2] : List Int).getD (d / 5 % 3).toNat 0
def qPl (ns : List Int) (f : Int) (k j : Nat) : Pla :=
  ⟨qNam ns f (qDr ns f k (6 * (j : Int) + 1) % (k : Int)).toNat, qDr ns f k (6 * (j : Int) + 2) % 8, qDr ns f k (6 * (j : Int) + 3) % 17 - 8, qDr ns f k (6 * (j : Int) + 3) / 17 % 17 - 8, col5 (qDr ns f k (6 * (j : Int) + 4)), lin3 (qDr ns f k (6 * (j : Int) + 4)), qDr ns f k (6 * (j : Int) + 5) % 13 - 6, qDr ns f k (6 * (j : Int) + 5) / 13 % 13 - 6⟩
def qPls (ns : List Int) (f : Int) (k i : Nat) : List Pla := (List.range i).map (qPl ns f k)
theorem qPls_succ (ns : List Int) (f : Int) (k i : Nat) : qPls ns f k (i + 1) = qPls ns f k i ++ [qPl ns f k i] := by unfold qPls; rw [List.range_succ, List.map_append]; rfl
theorem qPls_len (ns : List Int) (f : Int) (k i : Nat) : (qPls ns f k i).length = i := by unfold qPls; rw [List.length_map, List.length_range]
def qPn (ns : List Int) (f : Int) (k : Nat) : Nat := (min (k : Int) (qDr ns f k 0 % 3)).toNat
theorem qPn_le (ns : List Int) (f : Int) (k : Nat) : qPn ns f k ≤ 2 ∧ qPn ns f k ≤ k := by
  unfold qPn
  have h1 := Int.emod_lt_of_pos (qDr ns f k 0) (show (0 : Int) < 3 by decide)
  omega
def qRw (ns : List Int) (f : Int) (k : Nat) : Rw :=
  ⟨qNam ns f k, qShL (cellAt ns (f + 3 * (k : Int) + 1)) 3 (qCnt3 (cellAt ns (f + 3 * (k : Int) + 1)) 3), qLaL (cellAt ns (f + 3 * (k : Int) + 2)) 2 (qCnt3 (cellAt ns (f + 3 * (k : Int) + 2)) 2), qPls ns f k (qPn ns f k)⟩
def qRws (ns : List Int) (f : Int) (i : Nat) : List Rw := (List.range i).map (qRw ns f)
theorem qRws_succ (ns : List Int) (f : Int) (i : Nat) : qRws ns f (i + 1) = qRws ns f i ++ [qRw ns f i] := by unfold qRws; rw [List.range_succ, List.map_append]; rfl
theorem qRws_len (ns : List Int) (f : Int) (i : Nat) : (qRws ns f i).length = i := by unfold qRws; rw [List.length_map, List.length_range]
theorem qRws_at {ns : List Int} {f i : Int} {n : Nat} (h : 0 ≤ i ∧ i < n) : atI ((qRws ns f n).map rwC) i = some (rwC (qRw ns f i.toNat)) := by
  refine atI_nn h.1 ?_
  have hi : i.toNat < n := by omega
  unfold qRws
  rw [List.getElem?_map, List.getElem?_map, List.getElem?_range hi]
  rfl
theorem nmk_len (d : Int) {k m : Nat} (h : k < m) (hm : m ≤ 20) : (nmOf d).length + (Str.ofString (toString (k : Int))).length ≤ sizeLine := by
  have h1 := tls_len (d / 26 % 6).toNat
  have h2 := (dig_ok (n := k) (by omega)).1
  rw [sizeLine_eq]
  have h3 : (nmOf d).length ≤ 1 + (tls.getD (d / 26 % 6).toNat "").length := by
    unfold nmOf
    rw [len_app]
    exact Nat.add_le_add (Nat.le_of_eq rfl) (Nat.le_refl _)
  omega
theorem MD.up : ∀ {k : Nat} {d : D}, MD k d → MD (k + 1) d
  | 0, d, h => .inl h
  | k + 1, d, h => by
    rcases h with h | ⟨es, e, h1, h2⟩
    · exact .inl h
    · exact .inr ⟨es, e, h1, fun x hx => MD.up (h2 x hx)⟩
theorem nm_all : ∀ a : Fin 26, ∀ b : Fin 6, preOk ((⟨#[ltr.cps.toList.getD a.val 0]⟩ : Str) ++ tls.getD b.val "") = true := by decide +kernel
theorem nmOf_ok (d : Int) : preOk (nmOf d) = true := by
  have h1 : (d % 26).toNat < 26 := by omega
  have h2 : (d / 26 % 6).toNat < 6 := by omega
  exact nm_all ⟨_, h1⟩ ⟨_, h2⟩
theorem nameB_nm (d : Int) : nameB (nmOf d) = true := by
  have h := nmOf_ok d
  unfold preOk at h
  unfold nameB
  simp only [Bool.and_eq_true, decide_eq_true_eq] at h ⊢
  exact ⟨⟨h.1.1, by omega⟩, h.2⟩
theorem qNam_ok (ns : List Int) (f : Int) {k : Nat} (hk : k < 64) : nameB (qNam ns f k) = true := by
  have h1 := nmOf_ok (qDr ns f k 19)
  have h2 := dig_ok hk
  unfold preOk at h1
  simp only [Bool.and_eq_true, decide_eq_true_eq] at h1
  obtain ⟨⟨l1, l2⟩, f1, a⟩ := h1
  have hd : (Str.ofString (toString (k : Int))).cps.toList.all chB = true := List.all_eq_true.mpr fun c hc => chB_of (List.all_eq_true.mp h2.2 c hc)
  have hne : (nmOf (qDr ns f k 19)).cps.toList ≠ [] := fun e => by
    have : (nmOf (qDr ns f k 19)).cps.toList.length = 0 := by rw [e]; rfl
    rw [Array.length_toList] at this
    have l1' : 1 ≤ (nmOf (qDr ns f k 19)).cps.size := l1
    omega
  have hf : ((nmOf (qDr ns f k 19)).cps.toList ++ (Str.ofString (toString (k : Int))).cps.toList).getD 0 0 = (nmOf (qDr ns f k 19)).cps.toList.getD 0 0 := by
    cases q : (nmOf (qDr ns f k 19)).cps.toList with
    | nil => exact absurd q hne
    | cons c r => rfl
  unfold nameB qNam
  rw [len_app, all_app, a, hd, cps_app, hf, f1]
  simp only [Bool.and_true, Bool.and_eq_true, decide_eq_true_eq]
  omega
theorem name_1000 {n : Str} (h : nameB n = true) : n.length ≤ 1000 := by have := nameB_len h; omega
theorem qPl_ok (ns : List Int) (f : Int) {k : Nat} (j : Nat) (hk : k < 64) (h0 : 0 < k) : plaB (qPl ns f k j) = true := by
  have hc : 1 ≤ col5 (qDr ns f k (6 * (j : Int) + 4)) ∧ col5 (qDr ns f k (6 * (j : Int) + 4)) ≤ 100 := by
    have h := getD_mem (xs := ([1, 1, 1, 2, 3] : List Int)) (i := qDr ns f k (6 * (j : Int) + 4) % 5) (a := 0) (by show _ ∧ _ < (5 : Int); omega)
    have key : ∀ b ∈ ([1, 1, 1, 2, 3] : List Int), 1 ≤ b ∧ b ≤ 100 := by decide
    exact key _ h
  have hl : 1 ≤ lin3 (qDr ns f k (6 * (j : Int) + 4)) ∧ lin3 (qDr ns f k (6 * (j : Int) + 4)) ≤ 100 := by
    have h := getD_mem (xs := ([1, 1, 2] : List Int)) (i := qDr ns f k (6 * (j : Int) + 4) / 5 % 3) (a := 0) (by show _ ∧ _ < (3 : Int); omega)
    have key : ∀ b ∈ ([1, 1, 2] : List Int), 1 ≤ b ∧ b ≤ 100 := by decide
    exact key _ h
  have hn : nameB (qPl ns f k j).n = true := by
    refine qNam_ok ns f ?_
    have := Int.emod_lt_of_pos (qDr ns f k (6 * (j : Int) + 1)) (show (0 : Int) < (k : Int) by omega)
    omega
  unfold plaB
  rw [hn]
  simp only [Bool.true_and, Bool.and_eq_true, decide_eq_true_eq]
  exact ⟨⟨show 0 ≤ qDr ns f k (6 * (j : Int) + 2) % 8 by omega, show qDr ns f k (6 * (j : Int) + 2) % 8 < 8 by omega⟩, hc, hl⟩
theorem qRw_ok (ns : List Int) (f : Int) {k : Nat} (hk : k < 64) : CelOk (qRw ns f k).n (qRw ns f k).S (qRw ns f k).L (qRw ns f k).P := by
  refine ⟨qNam_ok ns f hk, fun x hx => ?_, fun x hx => ?_, fun x hx => ?_⟩
  · obtain ⟨j, _, rfl⟩ := List.mem_map.mp hx
    exact qSh_ok _ _ _
  · obtain ⟨j, _, rfl⟩ := List.mem_map.mp hx
    show (nameB (nmOf _) && decide (lab4 _ ∈ labN)) = true
    rw [nameB_nm, decide_eq_true (lab4_mem _)]; rfl
  · obtain ⟨j, hj, rfl⟩ := List.mem_map.mp hx
    have h1 := List.mem_range.mp hj
    have h2 := qPn_le ns f k
    exact qPl_ok ns f j hk (by omega)
theorem qRw_len (ns : List Int) (f : Int) (k : Nat) : (qRw ns f k).S.length ≤ 3 ∧ (qRw ns f k).L.length ≤ 2 ∧ (qRw ns f k).P.length ≤ 2 := by
  have h1 := qCnt3_le (c := cellAt ns (f + 3 * (k : Int) + 1)) (m := 3) (by decide)
  have h2 := qCnt3_le (c := cellAt ns (f + 3 * (k : Int) + 2)) (m := 2) (by decide)
  have h3 := qPn_le ns f k
  refine ⟨?_, ?_, ?_⟩
  · show (qShL _ _ _).length ≤ 3
    rw [qShL_len]; omega
  · show (qLaL _ _ _).length ≤ 2
    rw [qLaL_len]; omega
  · show (qPls _ _ _ _).length ≤ 2
    rw [qPls_len]; omega
def nmX (n : Str) (d : Int) : Str := ([n, "abcdefgh1234", "q"] : List Str).getD (d % 3).toNat ""
theorem nmX_ok {n : Str} {d : Int} (h : nameB n = true) : nameB (nmX n d) = true := by
  have hm := getD_mem (xs := ([n, "abcdefgh1234", "q"] : List Str)) (i := d % 3) (a := "") (by show _ ∧ _ < (3 : Int); omega)
  have hm2 : nmX n d ∈ ([n, "abcdefgh1234", "q"] : List Str) := hm
  simp only [List.mem_cons, List.not_mem_nil, or_false] at hm2
  rcases hm2 with e | e | e <;> rw [e]
  · exact h
  · decide +kernel
  · decide +kernel
def zzP (d : Int) : Pla := ⟨"zz", 7, 100000000000000000000, -5, 100, 1 + d % 100, -d, 1000000000000000⟩
theorem zzP_ok (d : Int) : plaB (zzP d) = true := by
  unfold plaB
  rw [show nameB (zzP d).n = true from (by decide +kernel : nameB "zz" = true)]
  simp only [Bool.true_and, Bool.and_eq_true, decide_eq_true_eq]
  exact ⟨⟨by show (0 : Int) ≤ 7; decide, by show (7 : Int) < 8; decide⟩, ⟨by show (1 : Int) ≤ 100; decide, by show (100 : Int) ≤ 100; decide⟩, show 1 ≤ 1 + d % 100 by omega, show 1 + d % 100 ≤ 100 by omega⟩
theorem CelOk.more {n : Str} {S : List Shp} {L : List Lab} {P : List Pla} (ok : CelOk n S L P) (d : Int) : CelOk (nmX n d) S L (P ++ [zzP d]) := ⟨nmX_ok ok.n, ok.s, ok.l, fun x hx => by
  rcases List.mem_append.mp hx with h | h
  · exact ok.p x h
  · rw [List.mem_singleton] at h; subst h; exact zzP_ok d⟩
end DL
namespace DL
open PySem PySem.Spec PyProof.Rows L2
abbrev PW := List (List Key × Int)
end DL
namespace DL
open PySem PySem.Spec PyProof.Rows L2
/-- a heap without some places -/
def ers (H : Hp) (as : List Addr) : Hp := fun b => if b ∈ as then none else H b
theorem ers_in {H : Hp} {as : List Addr} {b : Addr} (h : b ∈ as) : ers H as b = none := if_pos h
theorem ers_out {H : Hp} {as : List Addr} {b : Addr} (h : b ∉ as) : ers H as b = H b := if_neg h
theorem ers_sub {H : Hp} {as : List Addr} : Same (ers H as) H := fun b u e => by
  by_cases h : b ∈ as
  · rw [ers_in h] at e; cases e
  · rwa [ers_out h] at e
abbrev Cs := List (Addr × OC)
abbrev pl (cs : Cs) : List Addr := cs.map (·.1)
section
variable {K : PySem.W.Frag} {B0 B H0 H H0' H' : Hp} {σ : L2.St} {ρ : En}
/-- what a slot owns, in another order -/
theorem J.perm (j : J K B0 B σ H0 H ρ) {i : Nat} {cs cs' : Cs} {d : D} (h : ρ[i]? = some (.ox cs d)) (p : cs.Perm cs') : J K B0 B σ H0 H (ρ.set i (.ox cs' d)) := by
  obtain ⟨ov, e1, f1, f2, f3⟩ := j.get h
  exact j.setSl (s := .ox cs' d) e1 ⟨f1, fun q hq => f2 q (p.mem_iff.mpr hq), (p.map _).nodup_iff.mp f3⟩ (j.sub h e1 fun a w => by
    have w' : a ∈ cs'.map (·.1) := w
    exact (p.map (·.1)).mem_iff.mpr w')
/-- what was lent comes back -/
theorem J.back (j : J K B0 B σ H0 H ρ) {i : Nat} {cs cs2 cs' : Cs} {d : D} (h : ρ[i]? = some (.ox (cs ++ cs2) d)) (g : JH H0 (ers H (pl cs)) H0' H') (hc : ∀ p ∈ cs', CellR K (ers H (pl cs)) H0' H' p.1 p.2) (nd : (pl cs').Nodup) :
    J K B0 B σ H0' H' (ρ.set i (.ox (cs' ++ cs2) d)) := by
  obtain ⟨ov, e1, ⟨v, rfl, rv⟩, f2, f3⟩ := j.get h
  have f3' := f3
  rw [List.map_append, List.nodup_append] at f3'
  obtain ⟨n1, n2, n3⟩ := f3'
  have Bn : ∀ a, a ∈ pl cs → B a = none := fun a ha => by
    obtain ⟨p, hp, rfl⟩ := List.mem_map.mp ha
    obtain ⟨o, _, _, q, _⟩ := (f2 p (List.mem_append_left _ hp)).ex
    exact q
  have sB : Same B (ers H (pl cs)) := fun b u e => by
    rw [ers_out fun hb => by rw [Bn b hb] at e; cases e]
    exact j.hp.sB b u e
  have eN : ∀ a, ers H (pl cs) a = none → B a = none := fun a ha => by
    cases hB : B a with
    | none => rfl
    | some u => rw [sB a u hB] at ha; cases ha
  have cell : ∀ {a : Addr} {c : OC}, a ∉ pl cs → CellR K B H0 H a c → CellR K B H0' H' a c := fun {a c} na ⟨o, q1, q2, q3, q4⟩ => by
    have q5 : ers H (pl cs) a = some o := by rw [ers_out na]; exact q1
    exact ⟨o, g.sB a o q5, g.fr a o q5 q4.nt q2, q3, q4.mono g.s0⟩
  have hl : i < ρ.length := (List.getElem?_eq_some_iff.mp h).1
  have oth : ∀ {k : Nat} {s : Sl} {ok : Option V} {a : Addr}, k ≠ i → ρ[k]? = some s → σ[k]? = some ok → Owns s ok a → a ∉ pl cs := fun {k s ok a} nk h1 h2 w hm =>
    nk (j.dis k i s _ ok _ a h1 h h2 e1 w (by show a ∈ (cs ++ cs2).map (·.1); rw [List.map_append]; exact List.mem_append_left _ hm))
  refine ⟨⟨j.hp.s0.trans g.s0, g.sh, sB.trans g.sB, fun a o ha nt hb => g.fr a o (sB a o ha) nt (j.hp.fr a o ha nt hb)⟩, by simp [j.len], fun k s1 ov1 g1 g2 => ?_, fun k l s1 s2 o1 o2 b g1 g2 g3 g4 w1 w2 => ?_⟩
  · rcases set_get g1 with ⟨rfl, rfl, _⟩ | ⟨nk, g1⟩
    · rw [e1] at g2; cases g2
      refine ⟨⟨v, rfl, DR.mono g.s0 _ _ rv⟩, fun p hp => ?_, ?_⟩
      · rcases List.mem_append.mp hp with hp | hp
        · obtain ⟨o, q1, q2, q3, q4⟩ := (hc p hp).ex
          exact ⟨o, q1, q2, eN _ q3, q4⟩
        · exact cell (fun hm => n3 p.1 hm p.1 (List.mem_map.mpr ⟨p, hp, rfl⟩) rfl) (f2 p (List.mem_append_right _ hp))
      · rw [List.map_append, List.nodup_append]
        refine ⟨nd, n2, fun x hx y hy => ?_⟩
        rintro rfl
        obtain ⟨p, hp, rfl⟩ := List.mem_map.mp hx
        obtain ⟨q, hq, e⟩ := List.mem_map.mp hy
        obtain ⟨o, q1, q2, q3, q4⟩ := (hc p hp).ex
        obtain ⟨o', q1', _⟩ := (f2 q (List.mem_append_right _ hq)).ex
        rw [ers_out (fun hm => n3 p.1 hm p.1 hy rfl), ← e, q1'] at q3
        cases q3
    · have q := j.sl k s1 ov1 g1 g2
      have nb : ∀ b, Owns s1 ov1 b → b ∉ pl cs := fun b w => oth nk g1 g2 w
      cases s1 with
      | no => trivial
      | sh d => obtain ⟨v, q1, q2⟩ := q; exact ⟨v, q1, DR.mono g.s0 _ _ q2⟩
      | ow c =>
        obtain ⟨b, ob, q1, q2⟩ := q
        obtain ⟨o, r1, r2, r3, r4⟩ := cell (nb b q1) ⟨ob, q2⟩
        exact ⟨b, o, q1, r1, r2, r3, r4⟩
      | ox cs3 d3 =>
        obtain ⟨⟨v, q1, q2⟩, q3, q4⟩ := q
        exact ⟨⟨v, q1, DR.mono g.s0 _ _ q2⟩, fun p hp => cell (nb p.1 (List.mem_map.mpr ⟨p, hp, rfl⟩)) (q3 p hp), q4⟩
  · have new : ∀ {k : Nat} {s : Sl} {ok : Option V}, k ≠ i → ρ[k]? = some s → σ[k]? = some ok → Owns s ok b → b ∉ (cs' ++ cs2).map (·.1) := fun {k s ok} nk h1 h2 w hm => by
      obtain ⟨o, q1, _⟩ := j.own h1 h2 w
      have nb := oth nk h1 h2 w
      rw [List.map_append, List.mem_append] at hm
      rcases hm with hm | hm
      · obtain ⟨p, hp, rfl⟩ := List.mem_map.mp hm
        obtain ⟨_, _, _, q3, _⟩ := (hc p hp).ex
        rw [ers_out nb, q1] at q3; cases q3
      · exact nk (j.dis k i s _ ok _ b h1 h h2 e1 w (by show b ∈ (cs ++ cs2).map (·.1); rw [List.map_append]; exact List.mem_append_right _ hm))
    rcases set_get g1 with ⟨ek, es1, _⟩ | ⟨nk, g1'⟩
    · rcases set_get g2 with ⟨el, es2, _⟩ | ⟨nl, g2'⟩
      · rw [ek, el]
      · subst es1; exact absurd w1 (new nl g2' g4 w2)
    · rcases set_get g2 with ⟨el, es2, _⟩ | ⟨nl, g2'⟩
      · subst es2; exact absurd w2 (new nk g1' g3 w1)
      · exact j.dis k l s1 s2 o1 o2 b g1' g2' g3 g4 w1 w2
/-- what may be lent -/
theorem J.lent (j : J K B0 B σ H0 H ρ) {i : Nat} {cs cs2 : Cs} {d : D} (h : ρ[i]? = some (.ox (cs ++ cs2) d)) : (∀ p ∈ cs, CellR K (ers H (pl cs)) H0 H p.1 p.2) ∧ (pl cs).Nodup := by
  obtain ⟨ov, e1, ⟨v, rfl, rv⟩, f2, f3⟩ := j.get h
  rw [List.map_append, List.nodup_append] at f3
  refine ⟨fun p hp => ?_, f3.1⟩
  obtain ⟨o, q1, q2, q3, q4⟩ := (f2 p (List.mem_append_left _ hp)).ex
  exact ⟨o, q1, q2, ers_in (List.mem_map.mpr ⟨p, hp, rfl⟩), q4⟩
end
def EP (X : Cx) (ρ : En) (e : Expr) (Ψ : D → En → Prop) : Prop := ∀ B0 B σ H0 H (Q : VK), J X.K B0 B σ H0 H ρ → (∀ d ρ' v H0' H', Ψ d ρ' → Same H0 H0' → J X.K B0 B σ H0' H' ρ' → DR X.K H0' d v → Q v H') → RE X e σ H Q
/-- a new thing of its own, with cells -/
def EC (X : Cx) (ρ : En) (e : Expr) (Ψ : Addr → Cs → Prop) : Prop := ∀ B0 B σ H0 H (Q : VK), J X.K B0 B σ H0 H ρ → (∀ a cs H0' H', Ψ a cs → JH H0 H H0' H' → (∀ p ∈ cs, CellR X.K H H0' H' p.1 p.2) → (pl cs).Nodup → Q (.ref a) H') → RE X e σ H Q
section
variable {X : Cx} {ρ : En} {e : Expr} {pos : Pos} {d : D} {Φ : Out → Prop} {Ψ : D → En → Prop}
theorem ep_mono {Ψ' : D → En → Prop} (h : EP X ρ e Ψ) (q : ∀ d ρ', Ψ d ρ' → Ψ' d ρ') : EP X ρ e Ψ' := fun B0 B σ H0 H Q j k => h B0 B σ H0 H Q j fun d ρ' v H0' H' w => k d ρ' v H0' H' (q d ρ' w)
theorem ws_exprP (he : EP X ρ e Ψ) (hΦ : ∀ d ρ', Ψ d ρ' → Φ (.nx ρ')) (hs : swapsWith e none pos.line X.env = pure false := by rfl) : WS X (.Expr e pos) ρ Φ := fun B0 B σ H0 H Dn j k =>
  ⟨_, ps_expr pe_star hs, he B0 B σ H0 H _ j fun d ρ' v H0' H' w s1 j1 r => k _ (hΦ d ρ' w) σ H0' H' j1⟩
/-- x = a new thing with cells -/
theorem ws_setC (i : Nat) {x : Str} {pos' : Pos} {Ψ : Addr → Cs → Prop} (hN : X.N.Nodup) (he : EC X ρ e Ψ) (hΦ : ∀ a cs, Ψ a cs → Φ (.nx (ρ.set i (.ox cs (.ad a))))) (hi : X.N[i]? = some x := by rfl) (hx : Loc X.env.scope x := by first | exact Or.inl rfl | exact Or.inr rfl)
    (hs : swapsWith e (some (.Name x pos')) pos.line X.env = pure false := by rfl) (hf : X.fn x = true ∨ X.env.scope.names.lookup x = some .local := by first | exact .inl rfl | exact .inr rfl) : WS X (.Assign [.Name x pos'] e pos) ρ Φ := fun B0 B σ H0 H Dn j k =>
  ⟨_, ps_set hN hi hx pe_star hs hf, he B0 B σ H0 H _ j fun a cs H0' H' w g hc nd => by
    refine k _ (hΦ a cs w) _ H0' H' ((j.grow g).setTo (s := .ox cs (.ad a)) (ov := some (.ref a)) ⟨⟨_, rfl, rfl⟩, fun p hp => ?_, nd⟩ fun b w k s' ov' nk h1 h2 w2 => ?_)
    · obtain ⟨o, q1, q2, q3, q4⟩ := (hc p hp).ex
      exact ⟨o, q1, q2, j.hp.sB.free q3, q4⟩
    · have w' : b ∈ pl cs := w
      obtain ⟨p, hp, rfl⟩ := List.mem_map.mp w'
      obtain ⟨_, _, _, q3, _⟩ := (hc p hp).ex
      obtain ⟨o, q1, _⟩ := j.own h1 h2 w2
      rw [q3] at q1; cases q1⟩
/-- return e, with what slot 0 owns -/
theorem ws_retC (i : Nat) {cs : Cs} {d0 : D} (h : ED X ρ e d) (hi : ρ[i]? = some (.ox cs d0)) (hΦ : Φ (.rc d cs)) : WS X (.Return (some e) pos) ρ Φ := fun B0 B σ H0 H Dn j k =>
  ⟨_, ps_ret pe_star, h B0 B σ H0 H _ j fun v H0' H' g r => by
    obtain ⟨ov, e1, _, f2, f3⟩ := (j.grow g).get hi
    exact k _ hΦ v H0' H' (j.hp.trans g) f2 f3 r⟩
end
/-- R: the place of the first argument, what is lent, the other arguments, what comes back and the result -/
abbrev RLnt := Addr → Cs → List D → (Cs → D → Prop) → Prop
def spL (K : PySem.W.Frag) (R : RLnt) : Sp := fun vs H Q _ => ∃ H0 a cs ds ws Ψ, vs = .ref a :: ws ∧ Same H0 H ∧ (∀ p ∈ cs, CellR K (ers H (pl cs)) H0 H p.1 p.2) ∧ (pl cs).Nodup ∧ DRs K H0 ds ws ∧ R a cs ds Ψ ∧
  ∀ cs' d v H0' H', Ψ cs' d → JH H0 (ers H (pl cs)) H0' H' → (∀ p ∈ cs', CellR K (ers H (pl cs)) H0' H' p.1 p.2) → (pl cs').Nodup → DR K H0' d v → Q v H'
def enL (N : List Str) (cs : Cs) (a : Addr) (ds : List D) : En := .ox cs (.ad a) :: (ds.map Sl.sh ++ List.replicate (N.length - (ds.length + 1)) Sl.no)
section
variable {P : Program} {w : World} {K : PySem.W.Frag} {mg : Str → Option Value} {base : Heap}
theorem j_startL {N : List Str} {B H0 H : Hp} {a : Addr} {cs : Cs} {ds : List D} {vs : List V} (s : Same H0 H) (sB : Same B H) (hc : ∀ p ∈ cs, CellR K B H0 H p.1 p.2) (nd : (pl cs).Nodup) (r : DRs K H0 ds vs) (hl : ds.length + 1 ≤ N.length) : J K H0 B (L2.start N (.ref a :: vs)) H0 H (enL N cs a ds) := by
  have hlen := DRs.length r
  have kind : ∀ (i : Nat) s, (enL N cs a ds)[i]? = some s → i = 0 ∨ s = .no ∨ ∃ d, s = .sh d := fun i s h => by
    cases i with
    | zero => exact .inl rfl
    | succ i =>
      refine .inr ?_
      unfold enL at h
      rw [List.getElem?_cons_succ] at h
      by_cases hi : i < ds.length
      · rw [List.getElem?_append_left (by simpa using hi), List.getElem?_map, show ds[i]? = some ds[i] by simp [hi]] at h
        cases h; exact .inr ⟨_, rfl⟩
      · rw [List.getElem?_append_right (by simp; omega), List.getElem?_replicate] at h
        split at h
        · cases h; exact .inl rfl
        · cases h
  refine ⟨⟨Same.refl _, s, sB, fun b o e _ h => h⟩, by simp [L2.start, enL, hlen], fun i sl ov h1 h2 => ?_, fun i j s1 s2 o1 o2 b h1 h2 _ _ w1 w2 => ?_⟩
  · cases i with
    | zero =>
      unfold enL at h1
      unfold L2.start at h2
      simp only [List.getElem?_cons_zero, Option.some.injEq, List.map_cons, List.cons_append] at h1 h2
      subst h1; subst h2
      exact ⟨⟨_, rfl, rfl⟩, hc, nd⟩
    | succ i =>
      unfold enL at h1
      unfold L2.start at h2
      simp only [List.getElem?_cons_succ, List.map_cons, List.cons_append] at h1 h2
      by_cases hi : i < ds.length
      · rw [List.getElem?_append_left (by simpa using hi), List.getElem?_map] at h1
        rw [List.getElem?_append_left (by simp; omega), List.getElem?_map] at h2
        obtain ⟨v, e1, e2⟩ := DRs.get r (show ds[i]? = some ds[i] by simp [hi])
        rw [show ds[i]? = some ds[i] by simp [hi]] at h1
        rw [e1] at h2
        cases h1; cases h2
        exact ⟨v, rfl, e2⟩
      · rw [List.getElem?_append_right (by simp; omega), List.getElem?_replicate] at h1
        split at h1
        · cases h1; trivial
        · cases h1
  · rcases kind i s1 h1 with e1 | e1
    · rcases kind j s2 h2 with e2 | e2
      · rw [e1, e2]
      · exact absurd w2 (Owns.none e2 b)
    · exact absurd w1 (Owns.none e1 b)
theorem fn_okL {x qual : Str} {st : Stmt} {f : Addr} {fd : FuncData} {N ps : List Str} {k : Nat} {R : RLnt} (F : Fun K x qual st f fd) (S : FnScope N ps (defScope st)) (hR : ∀ a cs ds Ψ, R a cs ds Ψ → ds.length + 1 = ps.length)
    (h : ∀ a cs ds Ψ, R a cs ds Ψ → ∀ (cdv : Value) (A : Around) (outer : List Env) (s : Shared) (H : Hp) (E : XK), Room k (A.deeper (envOfC qual (defScope st) s.heap.objs.size f cdv)) →
      WSs (bx P w K mg base N qual st f cdv A outer s H E) (defBody st) (enL N cs a ds) (fun o => (∃ d cs', o = .rc d cs' ∧ Ψ cs' d) ∨ (∃ ρ cs' d0, o = .nx ρ ∧ ρ[0]? = some (.ox cs' d0) ∧ Ψ cs' .non))) : FnOk P w K mg base CX0 (k + 1) f fd ps (spL K R) := by
  refine F.ok S (fun vs H Q E hs => ?_) fun cdv A outer s H vs Q E hr hs => ?_
  · obtain ⟨H0, a, cs, ds, ws, Ψ, rfl, s0, hc, nd, r, q, _⟩ := hs
    rw [List.length_cons, ← DRs.length r]; exact hR a cs ds Ψ q
  · obtain ⟨H0, a, cs, ds, ws, Ψ, rfl, s0, hc, nd, r, q, kk⟩ := hs
    have hN : ds.length + 1 ≤ N.length := by
      have h1 := hR a cs ds Ψ q
      have h2 := congrArg List.length S.pre
      rw [List.length_take] at h2
      omega
    obtain ⟨t, h1, h2⟩ := h a cs ds Ψ q cdv A outer s H E hr H0 (ers H (pl cs)) (L2.start N (.ref a :: ws)) H0 H (j_startL s0 ers_sub hc nd r hN) (Dn := { nx := fun _ H' => Q .non H', rt := Q }) fun o ho => by
      rcases ho with ⟨d, cs', rfl, w⟩ | ⟨ρ, cs', d0, rfl, hρ, w⟩
      · intro v G0 G g gc gn gd
        exact kk cs' d v G0 G w g gc gn gd
      · intro σ G0 G j
        obtain ⟨ov, e1, _, f2, f3⟩ := j.get hρ
        exact kk cs' .non .non G0 G w j.hp f2 f3 rfl
    exact ⟨t, h1, h2⟩
/-- a method that is lent its instance -/
structure FnML (P : Program) (w : World) (K : PySem.W.Frag) (mg : Str → Option Value) (base : Heap) (cn m : Str) (k : Nat) (R : RLnt) : Prop where
  ex : ∃ C f fd ps, PySem.W.nsIn K mainGlobals cn = some (some (.ref C)) ∧ Cls K C ∧ Meth K C m f ∧ FnOk P w K mg base CX0 k f fd ps (spL K R) ∧ Binds K fd ps []
end
section
variable {X : Cx} {ρ : En} {o e : Expr} {pos apos : Pos} {cn m : Str} {k : Nat} {R : RLnt} {es : List Expr} {ds fds : List D} {ns : List Str} {d0 : D} {pl' : Sem Bool}
/-- o.m(e, ..), o an instance that slot i owns -/
theorem ep_meth (i : Nat) {a : Addr} {cs cs2 : Cs} {Ψ : Cs → D → Prop} (G : FnML X.prog X.w X.K X.mg X.base cn m k R) (hr : Room k X.A) (hi : ρ[i]? = some (.ox (cs ++ cs2) d0)) (hm : (a, OC.ins cn ns fds) ∈ cs) (ho : ED X ρ o (.ad a)) (ha : AD X ρ (e :: es) ds) (hR : R a cs ds Ψ)
    (hnm : ns.contains m = false := by decide +kernel)
    (hst : starEach (e :: es) X.env = (false, eval e X.env) :: starEach es X.env := by rfl) (hpl : (backTo pos (starEach es X.env)).any (·.1) = false := by rfl)
    (ht : eval (.Call (.Attribute o m apos) (e :: es) [] pos) X.env = (do
      let ov ← eval o X.env
      standAt apos.atName
      let (f, first) ← holding [ov] (getMethod ov m pl')
      callWith pos f first (backTo pos (starEach (e :: es) X.env)) (backToKw pos (keywordEach [] X.env))) := by rfl) :
    EP X ρ (.Call (.Attribute o m apos) (e :: es) [] pos) (fun d ρ' => ∃ cs', Ψ cs' d ∧ ρ' = ρ.set i (.ox (cs' ++ cs2) d0)) := fun B0 B σ H0 H Q j kk => by
  obtain ⟨C, f, fd, ps, hC, hc, hmt, F, hb⟩ := G.ex
  refine RE.of (pe_meth (E := E0) pe_star hc hmt F hr hb .nil pass0 pa_star hst hpl ht) (ho B0 B σ H0 H _ j fun v G0 G g r => ?_)
  cases (show v = .ref a from r)
  have j1 := j.grow g
  obtain ⟨u, h1, _, _, vs, C', dx, rfl, hC', hlen, hvs⟩ := j1.cell hi (List.mem_append_left _ hm)
  rw [hC] at hC'; cases hC'
  refine ⟨a, dx, _, rfl, h1, zip_none hnm, ha B0 B σ G0 G _ j1 fun ws L0 L g2 r2 => ?_⟩
  rw [List.append_nil]
  have j2 := j1.grow g2
  obtain ⟨lc, ln⟩ := j2.lent hi
  exact ⟨L0, a, cs, ds, ws, Ψ, rfl, g2.sh, lc, ln, r2, hR, fun cs' d v M0 M w g3 c3 n3 r3 => kk d _ v M0 M ⟨cs', w, rfl⟩ ((g.s0.trans g2.s0).trans g3.s0) (j2.back hi g3 c3 n3) r3⟩
theorem ep_meth0 (i : Nat) {a : Addr} {cs cs2 : Cs} {Ψ : Cs → D → Prop} (G : FnML X.prog X.w X.K X.mg X.base cn m k R) (hr : Room k X.A) (hi : ρ[i]? = some (.ox (cs ++ cs2) d0)) (hm : (a, OC.ins cn ns fds) ∈ cs) (ho : ED X ρ o (.ad a)) (hR : R a cs [] Ψ)
    (hnm : ns.contains m = false := by decide +kernel)
    (ht : eval (.Call (.Attribute o m apos) [] [] pos) X.env = (do
      let ov ← eval o X.env
      standAt apos.atName
      let (f, first) ← holding [ov] (getMethod ov m pl')
      callWith pos f first (backTo pos (starEach [] X.env)) (backToKw pos (keywordEach [] X.env))) := by rfl) :
    EP X ρ (.Call (.Attribute o m apos) [] [] pos) (fun d ρ' => ∃ cs', Ψ cs' d ∧ ρ' = ρ.set i (.ox (cs' ++ cs2) d0)) := fun B0 B σ H0 H Q j kk => by
  obtain ⟨C, f, fd, ps, hC, hc, hmt, F, hb⟩ := G.ex
  refine RE.of (pe_meth0 (E := E0) pe_star hc hmt F hr hb .nil pass0 ht) (ho B0 B σ H0 H _ j fun v G0 G g r => ?_)
  cases (show v = .ref a from r)
  have j1 := j.grow g
  obtain ⟨u, h1, _, _, vs, C', dx, rfl, hC', hlen, hvs⟩ := j1.cell hi (List.mem_append_left _ hm)
  rw [hC] at hC'; cases hC'
  refine ⟨a, dx, _, rfl, h1, zip_none hnm, ?_⟩
  obtain ⟨lc, ln⟩ := j1.lent hi
  exact ⟨G0, a, cs, [], [], Ψ, rfl, g.sh, lc, ln, rfl, hR, fun cs' d v M0 M w g3 c3 n3 r3 => kk d _ v M0 M ⟨cs', w, rfl⟩ (g.s0.trans g3.s0) (j1.back hi g3 c3 n3) r3⟩
/-- .. all of the slot lent -/
theorem ep_methW (i : Nat) {a : Addr} {cs : Cs} {Ψ : Cs → D → Prop} (G : FnML X.prog X.w X.K X.mg X.base cn m k R) (hr : Room k X.A) (hi : ρ[i]? = some (.ox cs d0)) (hm : (a, OC.ins cn ns fds) ∈ cs) (ho : ED X ρ o (.ad a)) (ha : AD X ρ (e :: es) ds) (hR : R a cs ds Ψ)
    (hnm : ns.contains m = false := by decide +kernel)
    (hst : starEach (e :: es) X.env = (false, eval e X.env) :: starEach es X.env := by rfl) (hpl : (backTo pos (starEach es X.env)).any (·.1) = false := by rfl)
    (ht : eval (.Call (.Attribute o m apos) (e :: es) [] pos) X.env = (do
      let ov ← eval o X.env
      standAt apos.atName
      let (f, first) ← holding [ov] (getMethod ov m pl')
      callWith pos f first (backTo pos (starEach (e :: es) X.env)) (backToKw pos (keywordEach [] X.env))) := by rfl) :
    EP X ρ (.Call (.Attribute o m apos) (e :: es) [] pos) (fun d ρ' => ∃ cs', Ψ cs' d ∧ ρ' = ρ.set i (.ox cs' d0)) :=
  ep_mono (ep_meth i (cs := cs) (cs2 := []) (d0 := d0) G hr (by rw [List.append_nil]; exact hi) hm ho ha hR hnm hst hpl ht) fun d ρ' ⟨cs', w, e⟩ => ⟨cs', w, by rw [e, List.append_nil]⟩
theorem ep_meth0W (i : Nat) {a : Addr} {cs : Cs} {Ψ : Cs → D → Prop} (G : FnML X.prog X.w X.K X.mg X.base cn m k R) (hr : Room k X.A) (hi : ρ[i]? = some (.ox cs d0)) (hm : (a, OC.ins cn ns fds) ∈ cs) (ho : ED X ρ o (.ad a)) (hR : R a cs [] Ψ)
    (hnm : ns.contains m = false := by decide +kernel)
    (ht : eval (.Call (.Attribute o m apos) [] [] pos) X.env = (do
      let ov ← eval o X.env
      standAt apos.atName
      let (f, first) ← holding [ov] (getMethod ov m pl')
      callWith pos f first (backTo pos (starEach [] X.env)) (backToKw pos (keywordEach [] X.env))) := by rfl) :
    EP X ρ (.Call (.Attribute o m apos) [] [] pos) (fun d ρ' => ∃ cs', Ψ cs' d ∧ ρ' = ρ.set i (.ox cs' d0)) :=
  ep_mono (ep_meth0 i (cs := cs) (cs2 := []) (d0 := d0) G hr (by rw [List.append_nil]; exact hi) hm ho hR hnm ht) fun d ρ' ⟨cs', w, e⟩ => ⟨cs', w, by rw [e, List.append_nil]⟩
end
abbrev RIL := Addr → List D → (Cs → Prop) → Prop
def spIL (K : PySem.W.Frag) (cn : Str) (R : RIL) : Sp := fun vs H Q _ => ∃ H0 a C dx ds ws Ψ, vs = .ref a :: ws ∧ PySem.W.nsIn K mainGlobals cn = some (some (.ref C)) ∧ Same H0 H ∧ H a = some (.ins C dx []) ∧ H0 a = none ∧ DRs K H0 ds ws ∧ R a ds Ψ ∧
  ∀ cs' H0' H', Ψ cs' → JH H0 (er H a) H0' H' → (∀ p ∈ cs', CellR K (er H a) H0' H' p.1 p.2) → (pl cs').Nodup → Q .non H'
section
variable {P : Program} {w : World} {K : PySem.W.Frag} {mg : Str → Option Value} {base : Heap}
theorem fn_okIL {x qual : Str} {st : Stmt} {f : Addr} {fd : FuncData} {N ps : List Str} {k : Nat} {cn : Str} {R : RIL} (F : Fun K x qual st f fd) (S : FnScope N ps (defScope st)) (hR : ∀ a ds Ψ, R a ds Ψ → ds.length + 1 = ps.length)
    (h : ∀ a ds Ψ, R a ds Ψ → ∀ (cdv : Value) (A : Around) (outer : List Env) (s : Shared) (H : Hp) (E : XK), Room k (A.deeper (envOfC qual (defScope st) s.heap.objs.size f cdv)) →
      WSs (bx P w K mg base N qual st f cdv A outer s H E) (defBody st) (enI N a cn ds) (fun o => ∃ ρ cs' d0, o = .nx ρ ∧ ρ[0]? = some (.ox cs' d0) ∧ Ψ cs')) : FnOk P w K mg base CX0 (k + 1) f fd ps (spIL K cn R) := by
  refine F.ok S (fun vs H Q E hs => ?_) fun cdv A outer s H vs Q E hr hs => ?_
  · obtain ⟨H0, a, C, dx, ds, ws, Ψ, rfl, hC, s0, ha, h0, r, q, _⟩ := hs
    rw [List.length_cons, ← DRs.length r]; exact hR a ds Ψ q
  · obtain ⟨H0, a, C, dx, ds, ws, Ψ, rfl, hC, s0, ha, h0, r, q, kk⟩ := hs
    have hN : ds.length + 1 ≤ N.length := by
      have h1 := hR a ds Ψ q
      have h2 := congrArg List.length S.pre
      rw [List.length_take] at h2
      omega
    obtain ⟨t, h1, h2⟩ := h a ds Ψ q cdv A outer s H E hr H0 (er H a) (L2.start N (.ref a :: ws)) H0 H (j_startI s0 hC ha h0 r hN) (Dn := { nx := fun _ H' => Q .non H', rt := Q }) fun o ho => by
      obtain ⟨ρ, cs', d0, rfl, hρ, w⟩ := ho
      intro σ G0 G j
      obtain ⟨ov, e1, _, f2, f3⟩ := j.get hρ
      exact kk cs' G0 G w j.hp f2 f3
    exact ⟨t, h1, h2⟩
structure FnIL (P : Program) (w : World) (K : PySem.W.Frag) (mg : Str → Option Value) (base : Heap) (cn : Str) (k : Nat) (R : RIL) : Prop where
  ex : ∃ C f fd ps, PySem.W.nsIn K mainGlobals cn = some (some (.ref C)) ∧ mg cn = some (.ref C) ∧ Mk K C f ∧ FnOk P w K mg base CX0 k f fd ps (spIL K cn R) ∧ Binds K fd ps []
end
section
variable {X : Cx} {ρ : En} {e : Expr} {pos : Pos} {cn f : Str} {ns fs : List Str} {ds : List D} {d : D}
/-- e.f, e an instance that slot s owns -/
theorem ed_fldC (s i : Nat) {a : Addr} {cs : Cs} {d0 : D} (kl : Kl X.K X.mg cn fs) (hρ : ρ[s]? = some (.ox cs d0)) (hm : (a, OC.ins cn ns ds) ∈ cs) (he : ED X ρ e (.ad a)) (hn : ns[i]? = some f := by rfl) (hd : ds[i]? = some d := by rfl) (hu : (ns.take i).contains f = false := by decide +kernel) (hf : f ∈ fs := by decide +kernel)
    (hb : attributeBase e f X.env (eval e X.env) = eval e X.env := by rfl) : ED X ρ (.Attribute e f pos) d := fun B0 B σ H0 H Q j k => by
  refine RE.of (pe_fld pe_star hb) (he B0 B σ H0 H _ j fun v G0 G g r => ?_)
  cases (show v = .ref a from r)
  obtain ⟨o, h1, h2, h3, vs, C, dx, rfl, hC, hlen, hvs⟩ := (j.grow g).cell hρ hm
  obtain ⟨C', hC', hmc, hc, hk, hna⟩ := kl.ex
  rw [hC] at hC'; cases hC'
  obtain ⟨v, hv', rv⟩ := DRs.get hvs hd
  exact ⟨a, C, dx, _, v, rfl, h1, hc.cl, hna f hf, zip_at hn hu hv', k v G0 G g rv⟩
theorem putC_hd {a : Addr} {c c' : OC} {cs : Cs} (nd : (pl ((a, c) :: cs)).Nodup) : putC ((a, c) :: cs) a c' = (a, c') :: cs := by
  unfold putC
  simp only [List.map_cons, if_pos]
  congr 1
  conv => rhs; rw [← List.map_id cs]
  refine List.map_congr_left fun p hp => ?_
  have : p.1 ≠ a := fun z => (List.nodup_cons.mp nd).1 (z ▸ List.mem_map.mpr ⟨p, hp, rfl⟩)
  rw [if_neg this]; rfl
/-- self.f = e, a new field of shared data -/
theorem ws_setFC (s : Nat) {a : Addr} {x : Str} {p pos' : Pos} {value : Expr} {cs : Cs} {Φ : Out → Prop} (kl : Kl X.K X.mg cn fs) (hρ : ρ[s]? = some (.ox ((a, .ins cn ns ds) :: cs) (.ad a))) (hv : ED X ρ value d) (hΦ : Φ (.nx (ρ.set s (.ox ((a, .ins cn (ns ++ [f]) (ds ++ [d])) :: cs) (.ad a)))))
    (hnew : ns.contains f = false := by decide +kernel) (hf : f ∈ fs := by decide +kernel) (hlt : ns.length < 1000 := by decide)
    (hN : X.N[s]? = some x := by rfl) (hvis : Vis X.env.scope x := by first | exact Or.inl rfl | exact Or.inr (Or.inl rfl) | exact Or.inr (Or.inr rfl)) (hdb : (x == ("__debug__" : Str)) = false := by decide) (hcd : (x == ("__classdict__" : Str)) = false := by decide)
    (hs : swapsWith value (some (.Attribute (.Name x p) f pos')) pos.line X.env = pure false := by rfl) : WS X (.Assign [.Attribute (.Name x p) f pos'] value pos) ρ Φ := fun B0 B σ H0 H Dn j k => by
  refine ⟨_, ps_fld (pe_var hN hvis hdb hcd) pe_star hs, hv B0 B σ H0 H _ j fun v G0 G g r => ?_⟩
  have j1 := j.grow g
  obtain ⟨ov, e1, ⟨v1, rfl, rv⟩, hcs, nd⟩ := j1.get hρ
  cases (show v1 = .ref a from rv)
  obtain ⟨o, h1, h2, h3, vs, C, dx, rfl, hC, hlen, hvs⟩ := (hcs _ (List.mem_cons_self ..)).ex
  obtain ⟨C', hC', hm, hc, hk, hna⟩ := kl.ex
  rw [hC] at hC'; cases hC'
  have hl : (ns.zip vs).length < 1000 := by rw [List.length_zip]; omega
  refine ⟨_, e1, a, C, dx, _, rfl, h1, hc.cl, hna f hf, hl, ?_⟩
  rw [putF_new hnew hlen]
  have j2 := j1.put (c' := .ins cn (ns ++ [f]) (ds ++ [d])) (o := .ins C dx ((ns ++ [f]).zip (vs ++ [v]))) hρ (List.mem_cons_self ..) ⟨vs ++ [v], C, dx, rfl, hC, by simp [hlen], DRs.app hvs (DRs.one r)⟩
  rw [putC_hd nd] at j2
  exact k _ hΦ _ _ _ j2
/-- self.f = e, a new field with a new thing -/
theorem ws_setFO (s : Nat) {a : Addr} {x : Str} {p pos' : Pos} {value : Expr} {cs : Cs} {c : OC} {Φ : Out → Prop} (kl : Kl X.K X.mg cn fs) (hρ : ρ[s]? = some (.ox ((a, .ins cn ns ds) :: cs) (.ad a))) (hv : EO X ρ value c) (hΦ : ∀ q, Φ (.nx (ρ.set s (.ox ((a, .ins cn (ns ++ [f]) (ds ++ [.ad q])) :: (cs ++ [(q, c)])) (.ad a)))))
    (hnew : ns.contains f = false := by decide +kernel) (hf : f ∈ fs := by decide +kernel) (hlt : ns.length < 1000 := by decide)
    (hN : X.N[s]? = some x := by rfl) (hvis : Vis X.env.scope x := by first | exact Or.inl rfl | exact Or.inr (Or.inl rfl) | exact Or.inr (Or.inr rfl)) (hdb : (x == ("__debug__" : Str)) = false := by decide) (hcd : (x == ("__classdict__" : Str)) = false := by decide)
    (hs : swapsWith value (some (.Attribute (.Name x p) f pos')) pos.line X.env = pure false := by rfl) : WS X (.Assign [.Attribute (.Name x p) f pos'] value pos) ρ Φ := fun B0 B σ H0 H Dn j k => by
  refine ⟨_, ps_fld (pe_var hN hvis hdb hcd) pe_star hs, hv B0 B σ H0 H _ j fun q oq G0 G g q1 q2 q3 q4 => ?_⟩
  have j1 := j.more g hρ q1 q2 q3 q4
  have hlt' : s < ρ.length := (List.getElem?_eq_some_iff.mp hρ).1
  obtain ⟨ov, e1, ⟨v1, rfl, rv⟩, hcs, nd⟩ := j1.get (i := s) (s := .ox ((a, .ins cn ns ds) :: (cs ++ [(q, c)])) (.ad a)) (by rw [List.getElem?_set_self hlt']; rfl)
  cases (show v1 = .ref a from rv)
  obtain ⟨o, h1, h2, h3, vs, C, dx, rfl, hC, hlen, hvs⟩ := (hcs _ (List.mem_cons_self ..)).ex
  obtain ⟨C', hC', hm, hc, hk, hna⟩ := kl.ex
  rw [hC] at hC'; cases hC'
  have hl : (ns.zip vs).length < 1000 := by rw [List.length_zip]; omega
  refine ⟨_, e1, a, C, dx, _, rfl, h1, hc.cl, hna f hf, hl, ?_⟩
  rw [putF_new hnew hlen]
  have j2 := j1.put (i := s) (cs := (a, .ins cn ns ds) :: (cs ++ [(q, c)])) (d := .ad a) (c' := .ins cn (ns ++ [f]) (ds ++ [.ad q])) (o := .ins C dx ((ns ++ [f]).zip (vs ++ [.ref q]))) (by rw [List.getElem?_set_self hlt']; rfl) (List.mem_cons_self ..) ⟨vs ++ [.ref q], C, dx, rfl, hC, by simp [hlen], DRs.app hvs (DRs.one (d := .ad q) (v := V.ref q) rfl)⟩
  rw [putC_hd nd, List.set_set] at j2
  exact k _ (hΦ q) _ _ _ j2
/-- a cell of a field is given to all -/
theorem ws_shareF (s i : Nat) {a q : Addr} {c : OC} {cs : Cs} {rest : List Stmt} {Φ : Out → Prop} (hρ : ρ[s]? = some (.ox ((a, .ins cn ns ds) :: (q, c) :: cs) (.ad a))) (hd : ds[i]? = some (.ad q)) (h : WSs X rest (ρ.set s (.ox ((a, .ins cn ns (ds.set i c.d)) :: cs) (.ad a))) Φ) : WSs X rest ρ Φ := fun B0 B σ H0 H Dn j k => by
  obtain ⟨ov, e1, ⟨v1, rfl, rv⟩, hcs, nd⟩ := j.get hρ
  cases (show v1 = .ref a from rv)
  have nd' : a ≠ q ∧ a ∉ pl cs ∧ q ∉ pl cs ∧ (pl cs).Nodup := by
    have h1 := nd
    simp only [List.map_cons, List.nodup_cons, List.mem_cons, not_or] at h1
    exact ⟨h1.1.1, h1.1.2, h1.2.1, h1.2.2⟩
  obtain ⟨o, h1, h2, h3, vs, C, dx, rfl, hC, hlen, hvs⟩ := (hcs _ (List.mem_cons_self ..)).ex
  obtain ⟨oq, q1, q2, q3, q4⟩ := (hcs (q, c) (List.mem_cons_of_mem _ (List.mem_cons_self ..))).ex
  have s0 : Same H0 (upd H0 q oq) := fun b u e => upd_keep e (fun z => by subst z; rw [q2] at e; cases e)
  obtain ⟨v, hv, rv'⟩ := DRs.get hvs hd
  cases (show v = .ref q from rv')
  obtain ⟨j1, _⟩ := j.shareAt (a := q) (c := c) (o := oq) (s' := .ox ((a, .ins cn ns (ds.set i c.d)) :: cs) (.ad a)) hρ e1 (by show q ∈ _; simp) q1 q4 (fun b w => by
    have w' : b ∈ pl ((a, OC.ins cn ns (ds.set i c.d)) :: cs) := w
    simp only [pl, List.map_cons, List.mem_cons] at w'
    rcases w' with rfl | w'
    · exact ⟨by show b ∈ _; simp, nd'.1⟩
    · exact ⟨by show b ∈ _; simp only [List.map_cons, List.mem_cons]; exact .inr (.inr w'), fun z => nd'.2.2.1 (z ▸ w')⟩) fun r => ⟨⟨_, rfl, rfl⟩, fun p hp => by
      rcases List.mem_cons.mp hp with rfl | hp
      · refine ⟨_, h1, by rw [upd_ne nd'.1]; exact h2, h3, vs, C, dx, rfl, hC, hlen, ?_⟩
        have e := DRs.set r i (DRs.mono s0 _ _ hvs)
        have ev : vs.set i (.ref q) = vs := by
          refine List.ext_getElem? fun m => ?_
          by_cases hm : m = i
          · subst hm
            rw [List.getElem?_set_self (List.getElem?_eq_some_iff.mp hv).1, hv]
          · rw [List.getElem?_set_ne (Ne.symm hm)]
        rw [ev] at e
        exact e
      · obtain ⟨o, f1, f2, f3, f4⟩ := (hcs p (List.mem_cons_of_mem _ (List.mem_cons_of_mem _ hp))).ex
        exact ⟨o, f1, by rw [upd_ne (fun z => nd'.2.2.1 (by rw [← z]; exact List.mem_map.mpr ⟨p, hp, rfl⟩))]; exact f2, f3, f4.mono s0⟩, by simp only [List.map_cons, List.nodup_cons]; exact ⟨nd'.2.1, nd'.2.2.2⟩⟩
  exact h B0 B σ _ H Dn j1 k
end
end DL
namespace DL
open PySem PySem.Spec PyProof.Rows L2
/-- what stands at a key -/
def lookK : List Key → List D → Key → Option D
  | k0 :: ks, d :: ds, k => if k0 = k then some d else lookK ks ds k
  | _, _, _ => none
theorem lookK_val {K : PySem.W.Frag} {H : Hp} {k : Key} : ∀ {ks : List Key} {ds : List D} {vs : List V} {d : D}, DRs K H ds vs → lookK ks ds k = some d → ∃ v, valV (ks.zip vs) k = some v ∧ DR K H d v
  | [], ds, vs, d, h, e => by simp [lookK] at e
  | k0 :: ks, [], vs, d, h, e => by simp [lookK] at e
  | k0 :: ks, d0 :: ds, vs, d, h, e => by
    obtain ⟨v, r, rfl, h1, h2⟩ := h
    by_cases q : k0 = k
    · rw [lookK, if_pos q] at e; cases e
      exact ⟨v, by rw [List.zip_cons_cons]; exact valV_pos q, h1⟩
    · rw [lookK, if_neg q] at e
      obtain ⟨u, e1, e2⟩ := lookK_val h2 e
      exact ⟨u, by rw [List.zip_cons_cons, valV_neg (p := (k0, v)) q]; exact e1, e2⟩
def hasK (ks : List Key) (k : Key) : Bool := ks.any fun j => decide (j = k)
theorem hasK_iff {ks : List Key} {k : Key} : hasK ks k = true ↔ k ∈ ks := by
  unfold hasK
  rw [List.any_eq_true]
  exact ⟨fun ⟨j, h1, h2⟩ => of_decide_eq_true h2 ▸ h1, fun h => ⟨k, h, decide_eq_true rfl⟩⟩
theorem hasK_not {ks : List Key} {k : Key} : hasK ks k = false ↔ k ∉ ks := by
  rw [← hasK_iff]; cases hasK ks k <;> simp
theorem lookK_has {k : Key} : ∀ {ks : List Key} {ds : List D} {d : D}, lookK ks ds k = some d → hasK ks k = true
  | [], ds, d, e => by simp [lookK] at e
  | k0 :: ks, [], d, e => by simp [lookK] at e
  | k0 :: ks, d0 :: ds, d, e => by
    by_cases q : k0 = k
    · simp [hasK, q]
    · rw [lookK, if_neg q] at e
      have := lookK_has e
      unfold hasK at this ⊢
      rw [List.any_cons, this, Bool.or_true]
theorem lookK_isSome {K : PySem.W.Frag} {H : Hp} {k : Key} : ∀ {ks : List Key} {ds : List D} {vs : List V}, ks.length = vs.length → DRs K H ds vs → (valV (ks.zip vs) k).isSome = hasK ks k
  | [], ds, vs, _, h => by simp [valV, hasK]
  | k0 :: ks, [], vs, l, h => by cases (show vs = [] from h); simp at l
  | k0 :: ks, d0 :: ds, vs, l, h => by
    obtain ⟨v, r, rfl, h1, h2⟩ := h
    rw [List.zip_cons_cons]
    by_cases q : k0 = k
    · rw [valV_pos (p := (k0, v)) q]; simp [q, hasK]
    · rw [valV_neg (p := (k0, v)) q, lookK_isSome (by simpa using l) h2]
      simp [hasK, q]
section
variable {X : Cx} {ρ : En} {Φ : Out → Prop} {e a b o : Expr} {pos : Pos} {d : D} {rest : List Stmt}
/-- d[k], d a shared dict -/
theorem ed_dix {ks : List Key} {ds : List D} {k0 : Key} (hu : X.A.units + 64 < cLine) (ho : ED X ρ o (.dk ks ds)) (he : ED X ρ e (kD k0)) (h : lookK ks ds k0 = some d) (hs : NoSl e := by exact fun _ _ => rfl) : ED X ρ (.Subscript o e pos) d := fun B0 B σ H0 H Q j kk => by
  refine RE.of (pe_dget (by omega) pe_star pe_star hs) (ho B0 B σ H0 H _ j fun x G0 G g r => ?_)
  refine he B0 B σ G0 G _ (j.grow g) fun y L0 L g2 r2 => ?_
  obtain ⟨p, vs, rfl, h1, h2, h3⟩ := DR.mono g2.s0 _ _ r
  rw [kD_val r2]
  obtain ⟨v, e1, e2⟩ := lookK_val h3 h
  exact ⟨p, v, rfl, .inl ⟨_, k0, Same.rd g2.sh h1, rfl, e1.symm⟩, kk v L0 L (g.trans g2) e2⟩
theorem op_inK (hu : X.A.units + 1 < cLine) : OpR X (compareOp .In) (fun x y H Q => ∃ (p : Addr) (o : Option V), y = .ref p ∧ DGet H p x o ∧ Q (.bl o.isSome) H) := by
  rintro pins s σ H x y v u Q I rx ry ⟨p, o, rfl, g, q⟩
  cases (show u = Value.ref p from ry)
  exact d_in hu I g rx fun s' I' => ⟨.bl o.isSome, H, I', rfl, q⟩
theorem op_notInK (hu : X.A.units + 1 < cLine) : OpR X (compareOp .NotIn) (fun x y H Q => ∃ (p : Addr) (o : Option V), y = .ref p ∧ DGet H p x o ∧ Q (.bl (!o.isSome)) H) := by
  rintro pins s σ H x y v u Q I rx ry ⟨p, o, rfl, g, q⟩
  cases (show u = Value.ref p from ry)
  exact d_notIn hu I g rx fun s' I' => ⟨.bl (!o.isSome), H, I', rfl, q⟩
theorem c2_inDk {ks : List Key} {ds : List D} {k0 : Key} {d0 : D} (hu : X.A.units + 64 < cLine) (h0 : d0 = kD k0) : C2 X .In d0 (.dk ks ds) (.bl (hasK ks k0)) := ⟨_, op_inK (by omega), fun H0 H x y Q s r1 r2 kk => by
  subst h0
  rw [kD_val r1]
  obtain ⟨p, vs, rfl, h1, h2, h3⟩ := r2
  exact ⟨p, valV (ks.zip vs) k0, rfl, .inl ⟨_, k0, Same.rd s h1, rfl, rfl⟩, kk _ H0 H (JH.refl s) (by rw [lookK_isSome h2 h3]; rfl)⟩⟩
theorem c2_notInDk {ks : List Key} {ds : List D} {k0 : Key} {d0 : D} (hu : X.A.units + 64 < cLine) (h0 : d0 = kD k0) : C2 X .NotIn d0 (.dk ks ds) (.bl (!hasK ks k0)) := ⟨_, op_notInK (by omega), fun H0 H x y Q s r1 r2 kk => by
  subst h0
  rw [kD_val r1]
  obtain ⟨p, vs, rfl, h1, h2, h3⟩ := r2
  exact ⟨p, valV (ks.zip vs) k0, rfl, .inl ⟨_, k0, Same.rd s h1, rfl, rfl⟩, kk _ H0 H (JH.refl s) (by rw [lookK_isSome h2 h3]; rfl)⟩⟩
/-- e[k] = v, e a dict at a place, k a new key -/
theorem ws_dputA (i : Nat) {p : Addr} {cs : Cs} {d0 : D} {ks : List Key} {ds : List D} {k0 : Key} {p2 : Pos} (hu : X.A.units + 64 < cLine) (hi : ρ[i]? = some (.ox cs d0)) (hm : (p, OC.dk ks ds) ∈ cs) (ha : ED X ρ a (.ad p)) (hb : ED X ρ b (kD k0)) (he : ED X ρ e d) (hn : k0 ∉ ks) (hl : ks.length < sizeLine)
    (hΦ : Φ (.nx (ρ.set i (.ox (putC cs p (.dk (ks ++ [k0]) (ds ++ [d]))) d0)))) (hs : swapsWith e (some (.Subscript a b p2)) pos.line X.env = pure false := by rfl) : WS X (.Assign [.Subscript a b p2] e pos) ρ Φ := fun B0 B σ H0 H Dn j kk => by
  refine ⟨_, ps_dput (by omega) pe_star pe_star pe_star hs, he B0 B σ H0 H _ j fun v G0 G g1 r1 => ha B0 B σ G0 G _ (j.grow g1) fun x L0 L g2 r2 => hb B0 B σ L0 L _ ((j.grow g1).grow g2) fun y M0 M g3 r3 => ?_⟩
  cases (show x = .ref p from r2)
  rw [kD_val r3]
  have j1 := ((j.grow g1).grow g2).grow g3
  obtain ⟨o, h1, h2, h3, vs, rfl, hlen, rr⟩ := j1.cell hi hm
  refine ⟨p, _, rfl, DPut.k h1 (by rw [List.length_zip, ← hlen]; omega), ?_⟩
  rw [putK_zip hlen hn]
  exact kk _ hΦ _ M0 _ (j1.put hi hm ⟨_, rfl, by simp [hlen], DRs.app rr (DRs.one (DR.mono (g2.trans g3).s0 _ _ r1))⟩)
end
theorem putC_set {cs : Cs} {i : Nat} {p : Addr} {c c' : OC} (nd : (pl cs).Nodup) (h : cs[i]? = some (p, c)) : putC cs p c' = cs.set i (p, c') := by
  unfold putC
  refine List.ext_getElem? fun k => ?_
  rw [List.getElem?_map, List.getElem?_set]
  by_cases e : i = k
  · subst e
    rw [if_pos rfl, if_pos (List.getElem?_eq_some_iff.mp h).1, h]
    simp
  · rw [if_neg e]
    cases hk : cs[k]? with
    | none => rfl
    | some y =>
      have : y.1 ≠ p := fun z => e (by
        have h1 : (pl cs)[i]? = some p := by rw [List.getElem?_map, h]; rfl
        have h2 : (pl cs)[k]? = some p := by rw [List.getElem?_map, hk, ← z]; rfl
        exact (List.getElem?_inj (List.getElem?_eq_some_iff.mp h1).1 nd).mp (h1.trans h2.symm))
      show some (if y.1 = p then (p, c') else y) = some y
      rw [if_neg this]
section
variable {X : Cx} {ρ : En} {Φ : Out → Prop} {e a b : Expr} {pos : Pos} {d : D}
/-- the same, by the cell's number -/
theorem ws_dputI (i m : Nat) {p : Addr} {cs : Cs} {d0 : D} {ks : List Key} {ds : List D} {k0 : Key} {p2 : Pos} (hu : X.A.units + 64 < cLine) (hi : ρ[i]? = some (.ox cs d0)) (hm : cs[m]? = some (p, OC.dk ks ds)) (ha : ED X ρ a (.ad p)) (hb : ED X ρ b (kD k0)) (he : ED X ρ e d) (hn : k0 ∉ ks) (hl : ks.length < sizeLine)
    (hΦ : Φ (.nx (ρ.set i (.ox (cs.set m (p, .dk (ks ++ [k0]) (ds ++ [d]))) d0)))) (hs : swapsWith e (some (.Subscript a b p2)) pos.line X.env = pure false := by rfl) : WS X (.Assign [.Subscript a b p2] e pos) ρ Φ := fun B0 B σ H0 H Dn j kk => by
  obtain ⟨_, _, _, _, nd⟩ := j.get hi
  exact ws_dputA i hu hi (List.mem_iff_getElem?.mpr ⟨m, hm⟩) ha hb he hn hl (by rw [putC_set nd hm]; exact hΦ) hs B0 B σ H0 H Dn j kk
theorem ws_appendI (i m : Nat) {p : Addr} {cs : Cs} {d0 : D} {ds : List D} {p2 p3 : Pos} (hi : ρ[i]? = some (.ox cs d0)) (hm : cs[m]? = some (p, OC.lst ds)) (ha : ED X ρ a (.ad p)) (he : ED X ρ e d) (hl : ds.length < sizeLine) (hΦ : Φ (.nx (ρ.set i (.ox (cs.set m (p, .lst (ds ++ [d]))) d0))))
    (hpe : ∀ {to : TE} {ta : TA}, PE X a to → PA X [e] ta → PS X (.Expr (.Call (.Attribute a "append" p2) [e] [] p3) pos) (tDrop (tBM X.K "list" rAppend to ta))) (hs : starEach [e] X.env = (false, eval e X.env) :: starEach [] X.env := by rfl) :
    WS X (.Expr (.Call (.Attribute a "append" p2) [e] [] p3) pos) ρ Φ := fun B0 B σ H0 H Dn j kk => by
  obtain ⟨_, _, _, _, nd⟩ := j.get hi
  exact ws_appendA i hi (List.mem_iff_getElem?.mpr ⟨m, hm⟩) ha he hl (by rw [putC_set nd hm]; exact hΦ) hpe hs B0 B σ H0 H Dn j kk
end
/-- data that stands nowhere -/
def fltD : D → Bool
  | .non | .bl _ | .int _ | .str _ | .ad _ | .ty _ => true
  | _ => false
theorem DR.flat {K : PySem.W.Frag} {H H' : Hp} {d : D} {v : V} (f : fltD d = true) (h : DR K H d v) : DR K H' d v := by
  cases d <;> first | exact h | cases f
section
variable {K : PySem.W.Frag} {B0 B H : Hp} {σ : L2.St} {i : Nat} {d : D}
theorem shareAllX : ∀ {cs : Cs} {H0 : Hp} {ρ : En}, J K B0 B σ H0 H ρ → ρ[i]? = some (.ox cs d) → ∃ H0', J K B0 B σ H0' H (ρ.set i (.sh d)) ∧ Same H0 H0' ∧ (∀ p ∈ cs, DR K H0' p.2.d (.ref p.1)) ∧ (∀ b, b ∉ pl cs → H0' b = H0 b) ∧ ∀ b ∈ pl cs, H0 b = none
  | [], H0, ρ, j, h => by
    obtain ⟨ov, e1, h1, h2, h3⟩ := j.get h
    exact ⟨H0, j.setSl (s := .sh d) e1 h1 (fun a w => w.elim), Same.refl _, fun p hp => by simp at hp, fun _ _ => rfl, fun b hb => by simp at hb⟩
  | (a, c) :: cs, H0, ρ, j, h => by
    obtain ⟨ov, e1, ⟨v, h1, h1'⟩, h2, h3⟩ := j.get h
    obtain ⟨o, f1, f2, f3, f4⟩ := j.cell h (List.mem_cons_self ..)
    have nd := List.nodup_cons.mp h3
    have s0 : Same H0 (upd H0 a o) := fun b u e => upd_keep e (fun z => by subst z; rw [f2] at e; cases e)
    obtain ⟨j1, s1⟩ := j.shareAt (s' := .ox cs d) (c := c) h e1 (List.mem_cons_self ..) f1 f4 (fun b w => ⟨List.mem_cons_of_mem _ w, fun z => nd.1 (z ▸ w)⟩) fun r => ⟨⟨v, h1, DR.mono s0 _ _ h1'⟩, fun p hp => by
      obtain ⟨ob, g2, g3, g4, g5⟩ := (h2 p (List.mem_cons_of_mem _ hp)).ex
      exact ⟨ob, g2, by rw [upd_ne (fun z => nd.1 (by rw [← z]; exact List.mem_map.mpr ⟨p, hp, rfl⟩))]; exact g3, g4, g5.mono s0⟩, nd.2⟩
    obtain ⟨H1, j3, s3, r3, n3, z3⟩ := shareAllX (cs := cs) j1 (by rw [List.getElem?_set_self (List.getElem?_eq_some_iff.mp h).1])
    rw [List.set_set] at j3
    refine ⟨H1, j3, s1.trans s3, fun p hp => ?_, fun b hb => ?_, fun b hb => ?_⟩
    · rcases List.mem_cons.mp hp with rfl | hp
      · exact DR.mono s3 _ _ (OCR.dr f2 f4)
      · exact r3 p hp
    · have hb' : b ≠ a ∧ b ∉ pl cs := by simpa [pl] using hb
      rw [n3 b hb'.2, upd_ne hb'.1]
    · have hb' : b = a ∨ b ∈ pl cs := by simpa [pl] using hb
      rcases hb' with rfl | hb'
      · exact f2
      · have q := z3 b hb'
        by_cases e : b = a
        · subst e; exact f2
        · rwa [upd_ne e] at q
/-- what was shown is a slot's own again -/
theorem JH.unshow {H0 H1 H G0 G : Hp} {as : List Addr} (s : Same H0 H1) (n : ∀ b, b ∉ as → H1 b = H0 b) (z : ∀ b ∈ as, H0 b = none) (g : JH H1 H G0 G) : JH H0 H (ers G0 as) G :=
  ⟨fun b u e => by rw [ers_out fun hb => by rw [z b hb] at e; cases e]; exact g.s0 b u (s b u e), ers_sub.trans g.sh, g.sB, fun a o h nt e => by
    by_cases ha : a ∈ as
    · exact ers_in ha
    · rw [ers_out ha]; exact g.fr a o h nt (by rw [n a ha]; exact e)⟩
end
section
variable {X : Cx} {ρ : En} {e : Expr} {d d' d0 : D} {cs : Cs}
/-- the cells of slot i are shown while e is asked, which gives what stands nowhere -/
theorem ed_show (i : Nat) (d' : D) (hi : ρ[i]? = some (.ox cs d0)) (hd : ∀ (K : PySem.W.Frag) (H : Hp) v, (∀ p ∈ cs, DR K H p.2.d (.ref p.1)) → DR K H d0 v → DR K H d' v) (h : ED X (ρ.set i (.sh d')) e d) (hf : fltD d = true := by rfl) : ED X ρ e d := fun B0 B σ H0 H Q j kk => by
  obtain ⟨H1, j1, s1, r1, n1, z1⟩ := shareAllX j hi
  have hl : i < σ.length := by rw [j.len]; exact (List.getElem?_eq_some_iff.mp hi).1
  obtain ⟨ov, e1, v, e2, r2⟩ := j1.get (i := i) (s := .sh d0) (by rw [List.getElem?_set_self (by rw [← j.len]; exact hl)])
  have j2 := j1.setSl (i := i) (s := .sh d') e1 ⟨v, e2, hd _ _ v r1 r2⟩ fun a w => w.elim
  rw [List.set_set] at j2
  exact h B0 B σ H1 H Q j2 fun v G0 G g r => kk v (ers G0 (pl cs)) G (g.unshow s1 n1 z1) (DR.flat hf r)
theorem td_show (i : Nat) (d' : D) {k : Bool} (hi : ρ[i]? = some (.ox cs d0)) (hd : ∀ (K : PySem.W.Frag) (H : Hp) v, (∀ p ∈ cs, DR K H p.2.d (.ref p.1)) → DR K H d0 v → DR K H d' v) (h : TD X (ρ.set i (.sh d')) e k) : TD X ρ e k := fun B0 B σ H0 H Q j kk => by
  obtain ⟨H1, j1, s1, r1, n1, z1⟩ := shareAllX j hi
  have hl : i < σ.length := by rw [j.len]; exact (List.getElem?_eq_some_iff.mp hi).1
  obtain ⟨ov, e1, v, e2, r2⟩ := j1.get (i := i) (s := .sh d0) (by rw [List.getElem?_set_self (by rw [← j.len]; exact hl)])
  have j2 := j1.setSl (i := i) (s := .sh d') e1 ⟨v, e2, hd _ _ v r1 r2⟩ fun a w => w.elim
  rw [List.set_set] at j2
  exact h B0 B σ H1 H Q j2 fun G0 G g => kk (ers G0 (pl cs)) G (g.unshow s1 n1 z1)
end
def maxI : Int → List Int → Int
  | d, [] => d
  | _, x :: xs => xs.foldl max x
theorem maxOf_int : ∀ (xs : List Int) (x : Int), PySem.W.maxOf x xs = xs.foldl max x
  | [], x => rfl
  | y :: ys, x => by
    show PySem.W.maxOf (if decide (x < y) = true then y else x) ys = ys.foldl max (max x y)
    rw [maxOf_int ys]
    congr 1
    by_cases h : x < y
    · rw [if_pos (decide_eq_true h)]; omega
    · rw [if_neg (by simpa using h)]; omega
section
variable {X : Cx} {ρ : En} {e a : Expr} {pos : Pos}
theorem call_maxDef (hc : X.calm = true) (hu : X.A.units + 64 < cLine) : CallRK X (.builtin "max") ["default"] (fun vs zs H Q => ∃ (p : Addr) (ns : List Int) (n : Int), vs = [.ref p] ∧ zs = [.int n] ∧ SqL X.K H p (ns.map V.int) ∧ Q (.int (maxI n ns)) H) := by
  intro pins s σ H xs zs us ws Q I r rz h
  obtain ⟨p, ns, n, rfl, rfl, hs, q⟩ := h
  rw [Vals.ref1 r]
  obtain ⟨its, rv, plL, hz⟩ := I.list hs
  cases rz with
  | cons r1 r2 =>
    cases r2
    obtain ⟨t, rfl⟩ := r1
    have hI : IntsAre its ns := ints_of_vals rv
    refine PySem.W.max_list_datum_default (α := Int) (I.ok.hd hc) plL.isList (by simpa using PySem.W.HoldAll.of_ints hI) (by show X.A.units + 1 + 0 < cLine; omega) (fun e h' tk k => ?_) fun y ys i v h' tk e hi hv k => ?_
    · subst e
      have I2 : Inv X pins σ H { s with heap := h', toks := tk } := I.un (Un.kept k) (I.hok.kept k)
      exact ⟨.int n, H, I2, ⟨_, rfl⟩, q⟩
    · subst e
      have I2 : Inv X pins σ H { s with heap := h', toks := tk } := I.un (Un.kept k) (I.hok.kept k)
      have h1 := PySem.W.HoldAll.toInts (PySem.W.HoldAll.cons hv PySem.W.HoldAll.nil)
      cases h1 with
      | cons n' t' _ => exact ⟨.int (PySem.W.maxOf y ys), H, I2, ⟨_, rfl⟩, by rw [maxOf_int]; exact q⟩
/-- max(e, default=n) -/
theorem ed_maxDef {ns : List Int} {n : Int} {x0 x1 p : Pos} {k : Nat} (hc : X.calm = true) (hu : X.A.units + 64 < cLine) (hg : Gl X "max") (hm : X.mg "max" = none) (he : ED X ρ e (.lst (ns.map .int)))
    (h1 : starEach [e] X.env = (false, eval e X.env) :: starEach [] X.env := by rfl) (h1' : backTo pos (starEach [e] X.env) = (false, eval e X.env) :: backTo pos (starEach [] X.env) := by rfl) (h2 : (backTo pos (starEach [e] X.env)).any (·.1) = false := by rfl)
    (h3 : (backToKw pos (keywordEach [⟨some "default", .Constant (.int n) k x0, x1⟩] X.env)).all (·.1.isSome) = true := by rfl) (h4 : (backToKw pos (keywordEach [⟨some "default", .Constant (.int n) k x0, x1⟩] X.env)).any (·.1.isNone) = false := by rfl) (h5 : (backToKw pos (keywordEach [⟨some "default", .Constant (.int n) k x0, x1⟩] X.env)).filterMap (·.1) = [("default" : Str)] := by rfl) :
    ED X ρ (.Call (.Name "max" p) [e] [⟨some "default", .Constant (.int n) k x0, x1⟩] pos) (.int (maxI n ns)) := fun B0 B σ H0 H Q j kk => by
  refine RE.of (pe_callBK (call_maxDef hc hu) hg hm bb_max (pa_cons pe_star pa_nil h1) (pk_cons pe_int pk_nil) (by decide) (by decide) h1' h2 h3 h4 h5) (he B0 B σ H0 H _ j fun v G0 G g r => ?_)
  obtain ⟨l, vs, rfl, hS, rr⟩ := r
  rw [DRs.ints rr] at hS
  exact ⟨l, ns, n, rfl, rfl, g.sh.seq hS, kk _ G0 G g rfl⟩
end
end DL
namespace DL
open PySem PySem.Spec PyProof.Rows L2
/-- a cell that stands in a library, with its counts and its depth -/
structure LRow where
  r : Rw
  sc : Int
  lc : Int
  dp : Int
abbrev celR (r : Rw) : D := celD r.n r.S r.L r.P
def nmsL (R : List LRow) : List Str := R.map fun x => x.r.n
def keyL (R : List LRow) : List Key := R.map fun x => Sum.inr x.r.n
def cnt (f : LRow → Int) (R : List LRow) (n : Str) : Int := ((R.find? fun x => decide (x.r.n = n)).map f).getD 0
def stepL (R : List LRow) (c : Rw) : List LRow := R ++ [⟨c, (c.S.length : Int) + (c.P.map fun p => p.c * p.r * cnt LRow.sc R p.n).sum, (c.L.length : Int) + (c.P.map fun p => p.c * p.r * cnt LRow.lc R p.n).sum, maxI 0 (c.P.map fun p => cnt LRow.dp R p.n + 1)⟩]
def libL (cs : List Rw) : List LRow := cs.foldl stepL []
theorem libL_snoc (cs : List Rw) (c : Rw) : libL (cs ++ [c]) = stepL (libL cs) c := by unfold libL; rw [List.foldl_append]; rfl
theorem stepL_nms (R : List LRow) (c : Rw) : nmsL (stepL R c) = nmsL R ++ [c.n] := by simp [stepL, nmsL]
theorem libL_rw (cs : List Rw) : (libL cs).map (·.r) = cs := by
  refine snoc_ind (P := fun cs => (libL cs).map (·.r) = cs) rfl (fun l x ih => ?_) cs
  rw [libL_snoc]; unfold stepL; rw [List.map_append, ih]; rfl
theorem libL_nms (cs : List Rw) : nmsL (libL cs) = cs.map (·.n) := by
  unfold nmsL
  conv => rhs; rw [← libL_rw cs]
  rw [List.map_map]; rfl
theorem libL_len (cs : List Rw) : (libL cs).length = cs.length := by
  have := congrArg List.length (libL_rw cs)
  rwa [List.length_map] at this
theorem keyL_len (R : List LRow) : (keyL R).length = R.length := by simp [keyL]
theorem mem_keyL {R : List LRow} {n : Str} : (Sum.inr n : Key) ∈ keyL R ↔ n ∈ nmsL R := by
  unfold keyL nmsL
  simp only [List.mem_map]
  exact ⟨fun ⟨x, h, e⟩ => ⟨x, h, by cases e; rfl⟩, fun ⟨x, h, e⟩ => ⟨x, h, by rw [e]⟩⟩
theorem has_keyL {R : List LRow} {n : Str} : hasK (keyL R) (Sum.inr n) = true ↔ n ∈ nmsL R := by rw [hasK_iff, mem_keyL]
theorem lk_find {g : LRow → D} {n : Str} : ∀ {R : List LRow}, lookK (keyL R) (R.map g) (Sum.inr n) = (R.find? fun x => decide (x.r.n = n)).map g
  | [] => rfl
  | x :: R => by
    show lookK (Sum.inr x.r.n :: keyL R) (g x :: R.map g) (Sum.inr n) = _
    unfold lookK
    by_cases e : x.r.n = n
    · rw [if_pos (by rw [e]), List.find?_cons, decide_eq_true e]; rfl
    · rw [if_neg (fun z => e (by cases z; rfl)), List.find?_cons, decide_eq_false e]
      exact lk_find
theorem find_mem {R : List LRow} {n : Str} (h : n ∈ nmsL R) : ∃ x, x ∈ R ∧ x.r.n = n ∧ R.find? (fun x => decide (x.r.n = n)) = some x := by
  cases hf : R.find? (fun x => decide (x.r.n = n)) with
  | some x => exact ⟨x, List.mem_of_find?_eq_some hf, by simpa using List.find?_some hf, rfl⟩
  | none =>
    obtain ⟨x, hx, e⟩ := List.mem_map.mp h
    exact absurd e (by simpa using List.find?_eq_none.mp hf x hx)
theorem lk_cnt {f : LRow → Int} {R : List LRow} {n : Str} (h : n ∈ nmsL R) : lookK (keyL R) (R.map fun x => D.int (f x)) (Sum.inr n) = some (.int (cnt f R n)) := by
  obtain ⟨x, _, _, hf⟩ := find_mem h
  rw [lk_find]
  unfold cnt
  rw [hf]; rfl
/-- the fields of a library -/
def libF (R : List LRow) : List D := [.dk (keyL R) (R.map fun x => celR x.r), .dk (keyL R) (R.map fun x => .int x.sc), .dk (keyL R) (R.map fun x => .int x.lc), .dk (keyL R) (R.map fun x => .int x.dp)]
abbrev libN : List Str := ["_cells", "_shape_counts", "_label_counts", "_depths"]
abbrev libD (R : List LRow) : D := .obj "Library" libN (libF R)
def libC (a p q s t : Addr) (R : List LRow) : Cs := [(a, .ins "Library" libN [.ad p, .ad q, .ad s, .ad t]), (p, .dk (keyL R) (R.map fun x => celR x.r)), (q, .dk (keyL R) (R.map fun x => .int x.sc)), (s, .dk (keyL R) (R.map fun x => .int x.lc)), (t, .dk (keyL R) (R.map fun x => .int x.dp))]
theorem drs_imp {K : PySem.W.Frag} {H : Hp} : ∀ {ds es : List D} {vs : List V}, ds.length = es.length → (∀ (i : Nat) d e, ds[i]? = some d → es[i]? = some e → ∀ u, DR K H d u → DR K H e u) → DRs K H ds vs → DRs K H es vs
  | [], [], vs, _, _, r => r
  | d :: ds, e :: es, vs, l, h, r => by
    obtain ⟨v, w, rfl, r1, r2⟩ := r
    exact ⟨v, w, rfl, h 0 d e rfl rfl v r1, drs_imp (by simpa using l) (fun i d e h1 h2 => h (i + 1) d e (by simpa using h1) (by simpa using h2)) r2⟩
theorem obj_imp {K : PySem.W.Frag} {H : Hp} {cn : Str} {ns : List Str} {ds es : List D} {v : V} (r : DR K H (.obj cn ns ds) v) (l : ds.length = es.length) (h : ∀ (i : Nat) d e, ds[i]? = some d → es[i]? = some e → ∀ u, DR K H d u → DR K H e u) : DR K H (.obj cn ns es) v := by
  obtain ⟨a, C, dx, vs, h1, hn, h2, h4, h3⟩ := r
  exact ⟨a, C, dx, vs, h1, hn, h2, h4, drs_imp l h h3⟩
theorem lib_show {K : PySem.W.Frag} {H : Hp} {a p q s t : Addr} {R : List LRow} (v : V) (h : ∀ x ∈ libC a p q s t R, DR K H x.2.d (.ref x.1)) (r : DR K H (.ad a) v) : DR K H (libD R) v := by
  cases (show v = .ref a from r)
  refine obj_imp (h (a, .ins "Library" libN [.ad p, .ad q, .ad s, .ad t]) (by simp [libC])) rfl fun i d e h1 h2 u w => ?_
  match i, h1, h2 with
  | 0, h1, h2 => cases h1; cases h2; cases (show u = .ref p from w); exact h (p, .dk (keyL R) (R.map fun x => celR x.r)) (by simp [libC])
  | 1, h1, h2 => cases h1; cases h2; cases (show u = .ref q from w); exact h (q, .dk (keyL R) (R.map fun x => .int x.sc)) (by simp [libC])
  | 2, h1, h2 => cases h1; cases h2; cases (show u = .ref s from w); exact h (s, .dk (keyL R) (R.map fun x => .int x.lc)) (by simp [libC])
  | 3, h1, h2 => cases h1; cases h2; cases (show u = .ref t from w); exact h (t, .dk (keyL R) (R.map fun x => .int x.dp)) (by simp [libC])
  | i + 4, h1, h2 => simp at h1
/-- a cell that a library may take -/
structure CanL (R : List LRow) (c : Rw) : Prop where
  new : c.n ∉ nmsL R
  old : ∀ p ∈ c.P, p.n ∈ nmsL R
  few : c.S.length ≤ 1000 ∧ c.L.length ≤ 1000 ∧ c.P.length ≤ 1000
  bd : ∀ p ∈ c.P, (1 ≤ p.c ∧ p.c ≤ 100) ∧ (1 ≤ p.r ∧ p.r ≤ 100)
def LibOk (cs : List Rw) : Prop := ∀ (k : Nat) c, cs[k]? = some c → CanL (libL (cs.take k)) c
theorem mul_100 {a b : Int} (h : (1 ≤ a ∧ a ≤ 100) ∧ (1 ≤ b ∧ b ≤ 100)) : -(2 ^ 64) < a * b ∧ a * b < 2 ^ 64 := by
  have h1 : a * b ≤ 100 * 100 := Int.mul_le_mul h.1.2 h.2.2 (by omega) (by omega)
  have h2 : 0 ≤ a * b := Int.mul_nonneg (by omega) (by omega)
  omega
end DL
namespace DL
open PySem PySem.Spec PyProof.Rows L2
section
variable {X : Cx} {ρ : En} {pos : Pos}
open PySem.AutoSeq1 (wpAny_loadPart')
def catS (zs : List Str) : Str := zs.foldl (· ++ ·) Str.empty
def sumL (zs : List Str) : Nat := (zs.map (·.length)).sum
/-- the parts of an f-string -/
def FSd (X : Cx) (ρ : En) (es : List Expr) (zs : List Str) : Prop := ∀ B0 B σ H0 H (acc : Str) (Q : Str → Hp → Prop), J X.K B0 B σ H0 H ρ → acc.length + sumL zs ≤ sizeLine → (∀ H0' H', JH H0 H H0' H' → Q (zs.foldl (· ++ ·) acc) H') → tJs (es.map (RE X)) acc σ H Q
theorem pj_star : ∀ es : List Expr, PJ X es (es.map (RE X))
  | [] => .nil
  | _ :: es => .cons pe_star (pj_star es)
theorem app_len (a b : Str) : (a ++ b).length = a.length + b.length := Array.size_append
variable {e o : Expr} {es : List Expr} {zs : List Str} {z : Str}
theorem fs_nil : FSd X ρ [] [] := fun B0 B σ H0 H acc Q j hl k => k H0 H (JH.refl j.same)
theorem fm_s {p : Pos} (h : ED X ρ e (.str z)) (hl : z.length ≤ sizeLine) : ED X ρ (.FormattedValue e (-1) none p) (.str z) := fun B0 B σ H0 H Q j k => RE.of (pe_fmt pe_star) (h B0 B σ H0 H _ j fun v G0 G g r => by
  cases (show v = .str z from r)
  exact .inl ⟨z, rfl, hl, k _ G0 G g rfl⟩)
theorem fm_i {p : Pos} {i : Int} (h : ED X ρ e (.int i)) (hl : i.natAbs.log2 < 1920) : ED X ρ (.FormattedValue e (-1) none p) (.str (Str.ofString (toString i))) := fun B0 B σ H0 H Q j k => RE.of (pe_fmt pe_star) (h B0 B σ H0 H _ j fun v G0 G g r => by
  cases (show v = .int i from r)
  exact .inr ⟨i, rfl, hl, k _ G0 G g rfl⟩)
theorem sumL_cons (z : Str) (zs : List Str) : sumL (z :: zs) = z.length + sumL zs := by simp [sumL]
theorem fs_cons (h : ED X ρ e (.str z)) (r : FSd X ρ es zs) : FSd X ρ (e :: es) (z :: zs) := fun B0 B σ H0 H acc Q j hl k => by
  rw [sumL_cons] at hl
  refine h B0 B σ H0 H _ j fun v G0 G g rv => ?_
  cases (show v = .str z from rv)
  refine ⟨z, rfl, by rw [app_len]; omega, ?_⟩
  exact r B0 B σ G0 G (acc ++ z) Q (j.grow g) (by rw [app_len]; omega) fun L0 L g2 => k L0 L (g.trans g2)
theorem ed_fs {e2 : Expr} (h : FSd X ρ (e :: e2 :: es) zs) (hl : sumL zs ≤ sizeLine) : ED X ρ (.JoinedStr (e :: e2 :: es) pos) (.str (catS zs)) := fun B0 B σ H0 H Q j k =>
  RE.of (pe_joined (pj_star _)) (h B0 B σ H0 H Str.empty (fun out H1 => Q (.str out) H1) j (by show 0 + _ ≤ _; omega) fun G0 G g => k _ G0 G g rfl)
/-- o.join(e) -/
theorem ed_join {a : Str} {ds : D} {apos : Pos} (ho : ED X ρ o (.str a)) (hs : SeqD ds (zs.map .str)) (he : ED X ρ e ds) (hl : sumL zs + zs.length * a.length ≤ 16777216) (h1 : starEach [e] X.env = [(false, eval e X.env)] := by rfl) (hbase : attributeBase o "join" X.env (eval o X.env) = eval o X.env := by rfl) (hline : (apos.endLine == pos.line) = true := by rfl) :
    ED X ρ (.Call (.Attribute o "join" apos) [e] [] pos) (.str (Str.join a zs)) := fun B0 B σ H0 H Q j k => by
  refine RE.of (pe_join pe_star pe_star h1 hbase hline) (ho B0 B σ H0 H _ j fun v G0 G g r => ?_)
  cases (show v = .str a from r)
  refine ⟨⟨a, rfl⟩, he B0 B σ G0 G _ (j.grow g) fun y L0 L g2 r2 => ?_⟩
  have fin : Q (.str (Txt.join a zs)) L := by
    rw [TL.join_eq]
    exact k _ L0 L (g.trans g2) rfl
  cases hs with
  | lst =>
    obtain ⟨p, vs, rfl, h2, h3⟩ := r2
    rw [DRs.strs h3] at h2
    exact ⟨a, p, zs, rfl, rfl, .inl (g2.sh.seq h2), hl, fin⟩
  | tup =>
    obtain ⟨p, vs, rfl, h2, h3⟩ := r2
    rw [DRs.strs h3] at h2
    exact ⟨a, p, zs, rfl, rfl, .inr (Same.seqT g2.sh h2), hl, fin⟩
end
end DL
namespace DL
open PySem PySem.Spec PyProof.Rows L2
abbrev stI (i : Int) : Str := Str.ofString (toString i)
theorem str_ext {a b : Str} (h : a.cps.toList = b.cps.toList) : a = b := by
  obtain ⟨⟨x⟩⟩ := a; obtain ⟨⟨y⟩⟩ := b
  simp at h; rw [h]
theorem app_assoc (a b c : Str) : a ++ b ++ c = a ++ (b ++ c) := str_ext (by simp only [cps_app, List.append_assoc])
theorem ofString_app (a b : String) : Str.ofString (a ++ b) = Str.ofString a ++ Str.ofString b := by
  refine str_ext ?_
  rw [cps_app]
  simp only [Str.ofString_eq_toList, String.toList_append, List.map_append]
theorem stI_neg {n : Nat} (h : 0 < n) : stI (-(n : Int)) = ("-" : Str) ++ stI (n : Int) := by
  obtain ⟨m, rfl⟩ := Nat.exists_eq_succ_of_ne_zero (by omega : n ≠ 0)
  show Str.ofString (toString (Int.negSucc m)) = _
  have e : toString (Int.negSucc m) = "-" ++ toString ((m + 1 : Nat) : Int) := rfl
  rw [e, ofString_app]
theorem stI_len {i : Int} {k : Nat} (hk : 0 < k) (h : i.natAbs < 10 ^ k) : (stI i).length ≤ k + 1 := by
  have e : ∀ n : Nat, n < 10 ^ k → (stI (n : Int)).length ≤ k := fun n hn => by
    rw [TL.len_tl, TL.tl_num]
    exact TL.numL_len hk hn
  rcases Int.lt_or_le i 0 with hi | hi
  · have : i = -((i.natAbs : Nat) : Int) := by omega
    rw [this, stI_neg (by omega), app_len]
    have := e i.natAbs h
    have h1 : ("-" : Str).length = 1 := by decide +kernel
    omega
  · have : i = ((i.natAbs : Nat) : Int) := by omega
    rw [this]
    have := e i.natAbs h
    omega
structure Sm (i : Int) : Prop where
  b : i.natAbs < 10 ^ 40
theorem Sm.len {i : Int} (h : Sm i) : (stI i).length ≤ 41 := stI_len (by decide) h.b
theorem Sm.log {i : Int} (h : Sm i) : i.natAbs.log2 < 1920 := by
  have h1 := h.b
  by_cases h0 : i.natAbs = 0
  · rw [h0]; decide
  · have := (Nat.log2_lt h0 (k := 200)).mpr (Nat.lt_of_lt_of_le h1 (by decide +kernel))
    omega
theorem sumL_nil : sumL [] = 0 := rfl
theorem join_len (a : Str) : ∀ ws : List Str, (Str.join a ws).length ≤ sumL ws + ws.length * a.length
  | [] => by show 0 ≤ _; omega
  | [x] => by show x.length ≤ _; simp [sumL]
  | x :: y :: r => by
    show (x ++ a ++ Str.join a (y :: r)).length ≤ _
    have ih := join_len a (y :: r)
    rw [app_len, app_len, sumL_cons, List.length_cons, Nat.succ_mul]
    omega
def lnS (s : Shp) : Str := Str.join " " ["shape", s.1, stI s.2.a, stI s.2.b, stI s.2.c, stI s.2.d]
def lnL (v : Lab) : Str := Str.join " " ["label", v.n, v.l, stI v.x, stI v.y]
def lnP (v : Pla) : Str := Str.join " " ["place", v.n, stI v.t, stI v.dx, stI v.dy, stI v.c, stI v.r, stI v.sx, stI v.sy]
/-- what may be written -/
structure SmR (r : Rw) : Prop where
  n : r.n.length ≤ 12
  s : ∀ s ∈ r.S, s.1.length ≤ 12 ∧ Sm s.2.a ∧ Sm s.2.b ∧ Sm s.2.c ∧ Sm s.2.d
  l : ∀ v ∈ r.L, v.n.length ≤ 12 ∧ v.l.length ≤ 12 ∧ Sm v.x ∧ Sm v.y
  p : ∀ v ∈ r.P, v.n.length ≤ 12 ∧ (Sm v.t ∧ Sm v.dx ∧ Sm v.dy) ∧ (Sm v.c ∧ Sm v.r) ∧ Sm v.sx ∧ Sm v.sy
  few : r.S.length ≤ 100 ∧ r.L.length ≤ 100 ∧ r.P.length ≤ 100
def lnC (r : Rw) : List Str := [("cell " : Str) ++ r.n] ++ r.S.map lnS ++ r.L.map lnL ++ r.P.map lnP
theorem lens : ("shape" : Str).length = 5 ∧ ("label" : Str).length = 5 ∧ ("place" : Str).length = 5 ∧ (" " : Str).length = 1 ∧ ("cell " : Str).length = 5 ∧ ("\n" : Str).length = 1 := by decide +kernel
theorem lnS_len {s : Shp} (h : s.1.length ≤ 12 ∧ Sm s.2.a ∧ Sm s.2.b ∧ Sm s.2.c ∧ Sm s.2.d) : (lnS s).length ≤ 1000 := by
  have h0 := join_len " " ["shape", s.1, stI s.2.a, stI s.2.b, stI s.2.c, stI s.2.d]
  have := lens; have h1 := h.2.1.len; have h2 := h.2.2.1.len; have h3 := h.2.2.2.1.len; have h4 := h.2.2.2.2.len
  unfold lnS
  simp only [sumL_cons, sumL_nil, List.length_cons, List.length_nil] at h0
  omega
theorem lnL_len {v : Lab} (h : v.n.length ≤ 12 ∧ v.l.length ≤ 12 ∧ Sm v.x ∧ Sm v.y) : (lnL v).length ≤ 1000 := by
  have h0 := join_len " " ["label", v.n, v.l, stI v.x, stI v.y]
  have := lens; have h1 := h.2.2.1.len; have h2 := h.2.2.2.len
  unfold lnL
  simp only [sumL_cons, sumL_nil, List.length_cons, List.length_nil] at h0
  omega
theorem lnP_len {v : Pla} (h : v.n.length ≤ 12 ∧ (Sm v.t ∧ Sm v.dx ∧ Sm v.dy) ∧ (Sm v.c ∧ Sm v.r) ∧ Sm v.sx ∧ Sm v.sy) : (lnP v).length ≤ 1000 := by
  have h0 := join_len " " ["place", v.n, stI v.t, stI v.dx, stI v.dy, stI v.c, stI v.r, stI v.sx, stI v.sy]
  obtain ⟨a, ⟨b, c, d⟩, ⟨e, f⟩, g, k⟩ := h
  have := lens; have h1 := b.len; have h2 := c.len; have h3 := d.len; have h4 := e.len; have h5 := f.len; have h6 := g.len; have h7 := k.len
  unfold lnP
  simp only [sumL_cons, sumL_nil, List.length_cons, List.length_nil] at h0
  omega
theorem lnC_len {r : Rw} (h : SmR r) : (lnC r).length ≤ 301 ∧ ∀ z ∈ lnC r, z.length ≤ 1000 := by
  have := h.few
  refine ⟨by simp only [lnC, List.length_append, List.length_map, List.length_cons, List.length_nil]; omega, fun z hz => ?_⟩
  simp only [lnC, List.mem_append, List.mem_singleton, List.mem_map] at hz
  rcases hz with ((rfl | ⟨s, hs, rfl⟩) | ⟨v, hv, rfl⟩) | ⟨v, hv, rfl⟩
  · have := lens; have := h.n; rw [app_len]; omega
  · exact lnS_len (h.s s hs)
  · exact lnL_len (h.l v hv)
  · exact lnP_len (h.p v hv)
def lnR (rs : List Rw) : List Str := rs.flatMap lnC
theorem lnR_len : ∀ {rs : List Rw}, (∀ r ∈ rs, SmR r) → (lnR rs).length ≤ 301 * rs.length ∧ ∀ z ∈ lnR rs, z.length ≤ 1000
  | [], _ => ⟨by simp [lnR], fun z h => by simp [lnR] at h⟩
  | r :: rs, h => by
    obtain ⟨h1, h2⟩ := lnR_len (rs := rs) fun x hx => h x (List.mem_cons_of_mem _ hx)
    obtain ⟨h3, h4⟩ := lnC_len (h r List.mem_cons_self)
    have e : lnR (r :: rs) = lnC r ++ lnR rs := by simp [lnR]
    rw [e, List.length_append, List.length_cons]
    refine ⟨by omega, fun z hz => ?_⟩
    rcases List.mem_append.mp hz with hz | hz
    · exact h4 z hz
    · exact h2 z hz
theorem sumL_le {k : Nat} : ∀ {zs : List Str}, (∀ z ∈ zs, z.length ≤ k) → sumL zs ≤ k * zs.length
  | [], _ => by simp [sumL]
  | z :: zs, h => by
    have h1 := h z List.mem_cons_self
    have h2 := sumL_le (zs := zs) fun x hx => h x (List.mem_cons_of_mem _ hx)
    rw [sumL_cons, List.length_cons, Nat.mul_succ]; omega
theorem lnR_snoc (rs : List Rw) (r : Rw) : lnR (rs ++ [r]) = lnR rs ++ lnC r := by simp [lnR]
def farS (a b : Int) (s : Shp) : Shp := (s.1, s.2.scl a b)
def farL (a b : Int) (v : Lab) : Lab := ⟨v.n, v.l, v.x * a + b, v.y - b⟩
def farR (a b : Int) (r : Rw) : Rw := ⟨r.n, r.S.map (farS a b), r.L.map (farL a b), r.P⟩
theorem dig_last : ∀ a : Fin 10, (Str.ofString (toString (a.val : Int))).cps.toList = [48 + a.val] := by decide +kernel
theorem qNam_last (ns : List Int) (f : Int) {k : Nat} (h : k < 10) : (qNam ns f k).cps.toList.getLast? = some (48 + k) := by
  unfold qNam
  rw [cps_app, dig_last ⟨k, h⟩]
  simp
theorem qNam_inj {ns : List Int} {f : Int} {i j : Nat} (hi : i < 10) (hj : j < 10) (h : qNam ns f i = qNam ns f j) : i = j := by
  have e := qNam_last ns f hi
  rw [h, qNam_last ns f hj] at e
  have := Option.some.inj e
  omega
def farL' (ns : List Int) (f a b : Int) (m : Nat) : List Rw := (qRws ns f m).map (farR a b)
theorem farL'_get {ns : List Int} {f a b : Int} {m k : Nat} (h : k < m) : (farL' ns f a b m)[k]? = some (farR a b (qRw ns f k)) := by
  unfold farL' qRws; rw [List.getElem?_map, List.getElem?_map, List.getElem?_range h]; rfl
theorem farL'_len (ns : List Int) (f a b : Int) (m : Nat) : (farL' ns f a b m).length = m := by unfold farL'; rw [List.length_map, qRws_len]
theorem farL'_take {ns : List Int} {f a b : Int} {m k : Nat} (h : k ≤ m) : (farL' ns f a b m).take k = farL' ns f a b k := by
  unfold farL' qRws; rw [← List.map_take, ← List.map_take, List.take_range, Nat.min_eq_left h]
theorem nms_far (ns : List Int) (f a b : Int) (m : Nat) : nmsL (libL (farL' ns f a b m)) = (List.range m).map (qNam ns f) := by
  rw [libL_nms]; unfold farL' qRws; rw [List.map_map, List.map_map]; rfl
theorem col5_bd (d : Int) : 1 ≤ col5 d ∧ col5 d ≤ 100 := by
  unfold col5
  have e1 := Int.emod_nonneg d (b := 5) (by decide)
  have e2 := Int.emod_lt_of_pos d (b := 5) (by decide)
  generalize d % 5 = z at e1 e2
  have : z = 0 ∨ z = 1 ∨ z = 2 ∨ z = 3 ∨ z = 4 := by omega
  rcases this with rfl | rfl | rfl | rfl | rfl <;> decide
theorem lin3_bd (d : Int) : 1 ≤ lin3 d ∧ lin3 d ≤ 100 := by
  unfold lin3
  have e1 := Int.emod_nonneg (d / 5) (b := 3) (by decide)
  have e2 := Int.emod_lt_of_pos (d / 5) (b := 3) (by decide)
  generalize d / 5 % 3 = z at e1 e2
  have : z = 0 ∨ z = 1 ∨ z = 2 := by omega
  rcases this with rfl | rfl | rfl <;> decide
theorem qPls_at {ns : List Int} {f : Int} {k i : Nat} {p : Pla} (h : p ∈ qPls ns f k i) : ∃ j, j < i ∧ p = qPl ns f k j := by
  unfold qPls at h
  obtain ⟨j, h1, h2⟩ := List.mem_map.mp h
  exact ⟨j, List.mem_range.mp h1, h2.symm⟩
theorem far_can (ns : List Int) (f a b : Int) {k : Nat} (hk : k < 10) : CanL (libL (farL' ns f a b k)) (farR a b (qRw ns f k)) := by
  have hl := qRw_len ns f k
  have hp := qPn_le ns f k
  refine ⟨fun h => ?_, fun p h => ?_, ⟨?_, ?_, ?_⟩, fun p h => ?_⟩
  · rw [nms_far] at h
    obtain ⟨i, h1, h2⟩ := List.mem_map.mp h
    have h1' := List.mem_range.mp h1
    have := qNam_inj (by omega) hk h2
    omega
  · obtain ⟨j, hj, rfl⟩ := qPls_at (show p ∈ qPls ns f k (qPn ns f k) from h)
    rw [nms_far]
    refine List.mem_map.mpr ⟨_, List.mem_range.mpr ?_, rfl⟩
    have h1 := Int.emod_nonneg (qDr ns f k (6 * (j : Int) + 1)) (b := (k : Int)) (by omega)
    have h2 := Int.emod_lt_of_pos (qDr ns f k (6 * (j : Int) + 1)) (b := (k : Int)) (by omega)
    omega
  · show ((qRw ns f k).S.map _).length ≤ 1000; rw [List.length_map]; omega
  · show ((qRw ns f k).L.map _).length ≤ 1000; rw [List.length_map]; omega
  · show (qRw ns f k).P.length ≤ 1000; omega
  · obtain ⟨j, hj, rfl⟩ := qPls_at (show p ∈ qPls ns f k (qPn ns f k) from h)
    exact ⟨col5_bd _, lin3_bd _⟩
theorem far_ok (ns : List Int) (f a b : Int) {m : Nat} (hm : m ≤ 10) : LibOk (farL' ns f a b m) := fun k c h => by
  have hk : k < m := by have := (List.getElem?_eq_some_iff.mp h).1; rwa [farL'_len] at this
  rw [farL'_get hk] at h; cases h
  rw [farL'_take (Nat.le_of_lt hk)]
  exact far_can ns f a b (by omega)
theorem sm_small {x : Int} (h : x.natAbs ≤ 10 ^ 31) : Sm x := ⟨by omega⟩
theorem lay_len : ∀ n ∈ layN, n.length ≤ 12 := by decide +kernel
theorem lab_len : ∀ n ∈ labN, n.length ≤ 12 := by decide +kernel
theorem nameB_12 {n : Str} (h : nameB n = true) : n.length ≤ 12 := nameB_len h
end DL
namespace DL
open PySem PySem.Spec PyProof.Rows L2
structure Lil (r : Rw) : Prop where
  s : ∀ s ∈ r.S, s.2.a.natAbs ≤ 1000 ∧ s.2.b.natAbs ≤ 1000 ∧ s.2.c.natAbs ≤ 1000 ∧ s.2.d.natAbs ≤ 1000
  l : ∀ v ∈ r.L, v.x.natAbs ≤ 1000 ∧ v.y.natAbs ≤ 1000
  few : r.S.length ≤ 100 ∧ r.L.length ≤ 100 ∧ r.P.length ≤ 100
theorem qRw_lil (ns : List Int) (f : Int) (k : Nat) : Lil (qRw ns f k) := by
  have hl := qRw_len ns f k
  refine ⟨fun s hs => ?_, fun v hv => ?_, by omega, by omega, by omega⟩
  · have hq : s ∈ qShL (cellAt ns (f + 3 * (k : Int) + 1)) 3 (qCnt3 (cellAt ns (f + 3 * (k : Int) + 1)) 3) := hs
    unfold qShL at hq
    obtain ⟨i, _, rfl⟩ := List.mem_map.mp hq
    obtain ⟨d, hd⟩ : ∃ d, d = dr (cellAt ns (f + 3 * (k : Int) + 1)) (3 * 3 + 1) (3 * (i : Int)) := ⟨_, rfl⟩
    obtain ⟨e, he⟩ : ∃ e, e = dr (cellAt ns (f + 3 * (k : Int) + 1)) (3 * 3 + 1) (3 * (i : Int) + 1) := ⟨_, rfl⟩
    have e1 : (qSh (cellAt ns (f + 3 * (k : Int) + 1)) 3 i).2 = boxOf d e := by rw [hd, he]; rfl
    rw [e1]
    unfold boxOf bx0 by0 bx1 by1; simp only; omega
  · have hq : v ∈ qLaL (cellAt ns (f + 3 * (k : Int) + 2)) 2 (qCnt3 (cellAt ns (f + 3 * (k : Int) + 2)) 2) := hv
    unfold qLaL at hq
    obtain ⟨i, _, rfl⟩ := List.mem_map.mp hq
    unfold qLa; simp only; omega
theorem qRws_lil {ns : List Int} {f : Int} {m : Nat} : ∀ r ∈ qRws ns f m, Lil r := fun r h => by
  unfold qRws at h
  obtain ⟨k, _, rfl⟩ := List.mem_map.mp h
  exact qRw_lil ns f k
end DL
namespace DL
open PySem PySem.Spec PyProof.Rows L2
theorem strs_dr {K : PySem.W.Frag} {H : Hp} : ∀ ys : List Str, DRs K H (ys.map D.str) (ys.map V.str)
  | [] => rfl
  | y :: ys => ⟨.str y, _, rfl, rfl, strs_dr ys⟩
section
variable {X : Cx} {ρ : En} {o e : Expr} {pos apos : Pos}
/-- o.split(e) -/
theorem eo_split {a b : Str} (ho : ED X ρ o (.str a)) (he : ED X ρ e (.str b)) (hb : (b.length == 0) = false) (hl : a.length + 2 ≤ sizeLine) (hs : starEach [e] X.env = [(false, eval e X.env)] := by rfl) (hbase : attributeBase o "split" X.env (eval o X.env) = eval o X.env := by rfl) (hline : (apos.endLine == pos.line) = true := by rfl) :
    EO X ρ (.Call (.Attribute o "split" apos) [e] [] pos) (.lst ((Txt.split a b).map .str)) := fun B0 B σ H0 H Q j k =>
  RE.of (pe_split pe_star pe_star hs hbase hline) (ho B0 B σ H0 H _ j fun v G0 G g r => by
    cases (show v = .str a from r)
    exact ⟨⟨a, rfl⟩, he B0 B σ G0 G _ (j.grow g) fun y L0 L g2 r2 => by
      cases (show y = .str b from r2)
      refine ⟨a, b, rfl, rfl, hb, hl, fun p hp => ?_⟩
      have g3 : JH L0 L L0 (upd L p (.lst ((Txt.split a b).map V.str))) := JH.own g2.sh hp
      have gg := (g.trans g2).trans g3
      exact k p _ _ _ gg upd_same (g2.sh.free hp) ((g.trans g2).sB.free hp) ⟨_, rfl, strs_dr _⟩⟩)
/-- o.startswith(e) -/
theorem ed_starts {a b : Str} (ho : ED X ρ o (.str a)) (he : ED X ρ e (.str b)) (hs : starEach [e] X.env = [(false, eval e X.env)] := by rfl) (hbase : attributeBase o "startswith" X.env (eval o X.env) = eval o X.env := by rfl) (hline : (apos.endLine == pos.line) = true := by rfl) :
    ED X ρ (.Call (.Attribute o "startswith" apos) [e] [] pos) (.bl (Txt.startswith a b)) := fun B0 B σ H0 H Q j k =>
  RE.of (pe_m1 PySem.F.slot_str_startswith PySem.F.type_str_startswith mt_startswith pe_star pe_star hs hbase hline) (ho B0 B σ H0 H _ j fun v G0 G g r => by
    cases (show v = .str a from r)
    exact ⟨⟨a, rfl⟩, he B0 B σ G0 G _ (j.grow g) fun y L0 L g2 r2 => by
      cases (show y = .str b from r2)
      exact ⟨a, b, rfl, rfl, k _ L0 L (g.trans g2) rfl⟩⟩)
/-- o.isdigit() -/
theorem ed_isdigit {a : Str} (ho : ED X ρ o (.str a)) (hbase : attributeBase o "isdigit" X.env (eval o X.env) = eval o X.env := by rfl) (hline : (apos.endLine == pos.line) = true := by rfl) :
    ED X ρ (.Call (.Attribute o "isdigit" apos) [] [] pos) (.bl (Txt.isdigit a)) := fun B0 B σ H0 H Q j k =>
  RE.of (pe_m0 PySem.F.slot_str_isdigit PySem.F.type_str_isdigit mt_isdigit pe_star hbase hline) (ho B0 B σ H0 H _ j fun v G0 G g r => by
    cases (show v = .str a from r)
    exact ⟨⟨a, rfl⟩, a, rfl, rfl, trivial, k _ G0 G g rfl⟩)
/-- int(text) -/
theorem bc_intS {a : Str} {n : Int} (h : PySem.intText? a = some n) (hl : a.length ≤ 640) : BC X (.type "int") [.str a] (.int n) := ⟨_, call_int_str, fun H0 H vs Q s r k => by
  obtain ⟨x, rfl, h1⟩ := r.one'
  cases (show x = .str a from h1)
  exact ⟨a, n, rfl, h, hl, k _ H0 H (JH.refl s) rfl⟩⟩
/-- (.., *e) -/
theorem ad_star {es : List Expr} {ds zs : List D} {p : Pos} (h : ED X ρ e (.tup zs)) (r : AD X ρ es ds) (hs : starEach (.Starred e p :: es) X.env = (true, eval e X.env) :: starEach es X.env := by rfl) : AD X ρ (.Starred e p :: es) (zs ++ ds) := fun B0 B σ H0 H Q j k =>
  RA.of (StX.pa_star pe_star DL.pa_star hs) (h B0 B σ H0 H _ j fun v G0 G g1 r1 => by
    obtain ⟨a, vs, rfl, h1, h2⟩ := r1
    exact ⟨a, vs, rfl, .inl (Same.seqT g1.sh h1), r B0 B σ G0 G _ (j.grow g1) fun ws L0 L g2 r2 => k (vs ++ ws) L0 L (g1.trans g2) (DRs.app (DRs.mono g2.s0 _ _ h2) r2)⟩)
end
theorem callWith_type_kwB {M : Model} {A : Around} {E : Value → Shared → Prop} {s : Shared} {pos : Pos} {id : String} {first : List Value} {args : List (Bool × Sem Value)} {keywords : List (Option Str × Sem Value)} {Q : Value → Shared → Prop}
    (hplain : args.any (·.1) = false) (hkw : keywords.any (·.1.isNone) = false)
    (h : wpAny M A (evalArgs (.type id) true args keywords) (fun a s₁ => wpAny M A (call (.type id) (first ++ a.pos) a.kw) Q E s₁) E s) :
    wpAny M A (callWith pos (.type id) first args keywords) Q E s := by
  unfold callWith
  refine wpAny_bind (wpAny_holding (wpAny_mono h (fun a s₁ h₁ => wpAny_bind (wpAny_standAt ?_)) fun _ _ x => x))
  simp only [hplain, hkw, Bool.or_false]
  refine wpAny_bind (wpAny_pure ?_)
  exact wpAny_bind (wpAny_mono h₁ (fun r s₂ hr => wpAny_bind (wpAny_holding (wpAny_point (wpAny_pure hr)))) fun _ _ x => x)
/-- as Ite, counted from k -/
def IteS (K : PySem.W.Frag) (k : Nat) (a : Addr) : It :=
  ⟨fun i H => ∃ (xs : List V) (x : V), SqL K H a xs ∧ xs[i]? = some x, fun i H v H' => ∃ T x, v = .ref T ∧ H T = none ∧ H' = upd H T (.tup [.int ((k : Int) + (i : Int)), x]) ∧ ∀ xs, SqL K H a xs → xs[i]? = some x, fun i H => ∃ xs : List V, SqL K H a xs ∧ xs.length ≤ i⟩
theorem turn_enumS {P : Program} {w : World} {K : PySem.W.Frag} {elts : List Expr} {kk : Nat} {tpos : Pos} (k : Nat) (a e it : Addr) :
    Turn P w K (.Tuple elts kk tpos) (IteS K k a) [e, it] e (fun i h => (∃ old, IsEnum h e it ((k : Int) + (i : Int)) old) ∧ h.IsListIter it a i ∧ e ≠ it ∧ a ≠ it) where
  mem := by simp
  obj := fun i h st b hb => by
    obtain ⟨⟨old, he⟩, ⟨o, ho, hc, hd⟩, _⟩ := st
    have e' : b = e ∨ b = it := by simpa using hb
    rcases e' with z | z
    · rw [z]; exact ⟨_, he, fun v q => nomatch q⟩
    · rw [z]; exact ⟨o, ho, fun v q => by rw [hd] at q; cases q⟩
  keep := fun i h h' st k => let ⟨⟨old, he⟩, hi, hne⟩ := st; ⟨⟨old, k e (by simp) _ he⟩, hi.at fun o q => k it (by simp) o q, hne⟩
  item := by
    intro X hP hw hK hc i pins s σ H E I hf st hg
    subst hP hw hK
    obtain ⟨⟨old, he⟩, hit, hne, hna⟩ := st
    obtain ⟨xs, x, hq, hx⟩ := hg
    obtain ⟨its, rv, p, hz⟩ := I.list hq
    obtain ⟨u, hu, ru⟩ := rv.get hx
    have p' : s.heap.IsList a its.toArray := p.isList
    have hel : e < s.heap.objs.size := Heap.lt_size he
    have hil : it < s.heap.objs.size := by obtain ⟨_, q, _⟩ := hit; exact Heap.lt_size q
    have hea : e ≠ a := fun z => by
      subst z
      obtain ⟨o, q1, q2, _⟩ := p'
      rw [show s.heap.get? e = some _ from he] at q1
      cases q1
      exact absurd (Value.type.inj q2) (by decide)
    have hlt : i < its.toArray.size := by
      have := (List.getElem?_eq_some_iff.mp hu).1
      simpa using this
    refine wpAny_pyNext_enum_itemC (Draws.list (A := X.A.in1) (I.ok.hd hc) it a hna its.toArray) he ⟨hit, p'⟩ hlt hne (by simp [hne, hea]) fun y h' tk hy ho st' hT hsz hk => ?_
    have hyu : y = u := by
      have : its[i]? = some y := by simpa using hy
      rw [hu] at this
      exact (Option.some.inj this).symm
    subst hyu
    refine ⟨_, rfl, wpAny_letOwnedTupleGo_enum (s := { s with heap := h', toks := tk + 1 }) ho fun h'' he' sb => ?_⟩
    have hT2 : h''.get? s.heap.objs.size = some { cls := .type "tuple", data := .seq #[.int ((k : Int) + (i : Int)) tk, y] } := (sb.2 _ (Nat.ne_of_gt hel)).trans hT
    have new : ObjOk X.prog X.w (upd H s.heap.objs.size (.tup [.int ((k : Int) + (i : Int)), x])) h'' s.heap.objs.size (.tup [.int ((k : Int) + (i : Int)), x]) :=
      ⟨by show 2 ≤ sizeLine; decide, [.int ((k : Int) + (i : Int)) tk, y], .cons ⟨_, rfl⟩ (.cons ru .nil), ⟨_, hT2, rfl, _, rfl⟩⟩
    have I1 : Inv X pins σ (upd H s.heap.objs.size (.tup [.int ((k : Int) + (i : Int)), x])) { s with heap := h'', toks := tk + 1 } :=
      I.turnedNew (ch := [e, it]) (fun b ob hb q => (sb.2 b (fun z => hb (by simp [z]))).trans (hk b ob (fun z => hb (by simp [z])) (fun z => hb (by simp [z])) q)) hf (Nat.le_refl _) new
    refine ⟨.ref s.heap.objs.size, _, I1, rfl, ⟨_, x, rfl, I.hok.fresh (Nat.le_refl _), rfl, fun ys hy => by rw [I.list_inj hy hq]; exact hx⟩, ⟨⟨y, ?_⟩, st'.1.at fun o q => (sb.2 it (Ne.symm hne)).trans q, hne, hna⟩, fun b hb => ?_⟩
    · have e1 : (k : Int) + ((i + 1 : Nat) : Int) = (k : Int) + (i : Int) + 1 := by omega
      rw [e1]; exact he'
    · have hb' : b < s.heap.objs.size := by
        have e' : b = e ∨ b = it := by simpa using hb
        rcases e' with z | z
        · rw [z]; exact hel
        · rw [z]; exact hil
      rw [upd_ne (Nat.ne_of_lt hb')]
      exact (hf b hb).1
  done := by
    intro X hP hw hK hc i pins s σ H E I hf st hg
    subst hP hw hK
    obtain ⟨⟨old, he⟩, hit, hne, hna⟩ := st
    obtain ⟨xs, hq, hx⟩ := hg
    obtain ⟨its, rv, p, hz⟩ := I.list hq
    have p' : s.heap.IsList a its.toArray := p.isList
    obtain ⟨f0, f1, f2, f3, f4, f5⟩ := hf it (by simp)
    have hl := rv.length
    have hT : s.TypeIs (.ref e) "enumerate" := ⟨_, he, rfl⟩
    refine (?_ : wpAny _ _ _ _ _ s)
    unfold pyNext
    refine wpAny_bind (wpAny_attempt (wpAny_callSpecial?_slot (name := Str.ofString "__next__") hT F.slot_enumerate_next
      (wpAny_call_entry F.slot_enumerate_next hT F.entry_enumerate_next ?_ (F.args_enumerate_next_1 _))))
    show wpAny _ _ (field (.ref e) 2 >>= _) _ _ _
    refine wpAny_bind (wpAny_field he rfl (x := .ref it) rfl ?_)
    refine wpAny_bind (wpAny_nextOf_list_end (A := X.A.in1) (I.ok.hd hc) hit p' (by simp; omega) fun h' x he' hx' => ?_)
    obtain ⟨o, ho, hc⟩ := hx'
    refine wpAny_bind (wpAny_isInstance (T := "StopIteration") (b := true) ⟨o, ho, hc⟩ isSubtype_stop ?_)
    exact wpAny_pure ⟨rfl, I.turned (t' := s.toks) (fun b o hb q => he' b o hb q) f0 f1 f3 f4 f5⟩
  self := fun A i s Q E st h => let ⟨⟨_, he⟩, _⟩ := st; wpAny_pyIter_enum he h
/-- enumerate(e, start=k) -/
def iEnumS (K : PySem.W.Frag) (k : Nat) (ta : TA) : TI := fun σ H R => ta σ H fun vs H1 => ∃ a xs, vs = [.ref a] ∧ SqL K H1 a xs ∧ R (IteS K k a) H1
theorem pi_enumS {X : Cx} {e : Expr} {ta : TA} {k : Nat} {kc : Nat} {p x0 x1 pos tpos : Pos} {elts : List Expr} {kk : Nat} (hg : Gl X "enumerate") (hm : X.mg "enumerate" = none) (ha : PA X [e] ta) (hk : k < 1000)
    (h1' : backTo pos (starEach [e] X.env) = (false, eval e X.env) :: backTo pos (starEach [] X.env) := by rfl) (h2 : (backTo pos (starEach [e] X.env)).any (·.1) = false := by rfl)
    (h3 : (backToKw pos (keywordEach [⟨some "start", .Constant (.int (k : Int)) kc x0, x1⟩] X.env)).all (·.1.isSome) = true := by rfl) (h4 : (backToKw pos (keywordEach [⟨some "start", .Constant (.int (k : Int)) kc x0, x1⟩] X.env)).any (·.1.isNone) = false := by rfl) (h5 : (backToKw pos (keywordEach [⟨some "start", .Constant (.int (k : Int)) kc x0, x1⟩] X.env)).filterMap (·.1) = [("start" : Str)] := by rfl) :
    PI X (.Tuple elts kk tpos) (.Call (.Name "enumerate" p) [e] [⟨some "start", .Constant (.int (k : Int)) kc x0, x1⟩] pos) (iEnumS X.K k ta) := by
  refine ⟨fun pins s σ H R I h => ?_⟩
  refine wpAny_Call_Name_kw (ld_blt I hg hm boot_enumerate ?_)
  refine callWith_type_kwB h2 h4 ?_
  rw [h1']
  refine evalArgs_kwB h3 ?_
  have hh := ha.run pos pins s σ H _ I h
  rw [h1'] at hh
  refine thn hh fun us s1 ⟨vs, H1, I1, r1, q1⟩ => ?_
  refine thn ((pk_cons (nm := some "start") (pe_int (i := (k : Int)) (j := kc)) pk_nil).run pos pins s1 σ H1 (fun ws H2 => ws = [.int (k : Int)] ∧ H2 = H1) I1 ⟨rfl, rfl⟩) fun ws s2 ⟨zs, H2, I2, r2, q2⟩ => ?_
  obtain ⟨rfl, rfl⟩ := q2
  rw [h5]
  obtain ⟨a, xs, ex, hq, q⟩ := q1
  subst ex
  cases r1 with
  | cons r rr =>
    cases rr
    cases r
    cases r2 with
    | cons t tt =>
      cases tt
      obtain ⟨tz, rfl⟩ := t
      obtain ⟨its, rv, p', hz⟩ := I2.list hq
      have p2 : s2.heap.IsList a its.toArray := p'.isList
      have hlt : a < s2.heap.objs.size := by obtain ⟨_, q, _⟩ := p2; exact Heap.lt_size q
      refine enum_begins_start (begins_list a its.toArray) p2 (by omega) (by omega) fun h' he hit hsz hk => wpAny_pyIter_enum he ?_
      have I3 : Inv X pins σ H2 { s2 with heap := h' } := I2.kept (t' := s2.toks) hk
      refine ⟨s2.heap.objs.size + 1, [s2.heap.objs.size + 1, s2.heap.objs.size], _, _, H2, rfl, I3, turn_enumS k a (s2.heap.objs.size + 1) s2.heap.objs.size, ⟨⟨.none, by simpa using he⟩, ⟨_, hit, rfl, rfl⟩, Nat.succ_ne_self _, Nat.ne_of_lt hlt⟩, fun b hb => ?_, q⟩
      have e' : b = s2.heap.objs.size + 1 ∨ b = s2.heap.objs.size := by simpa using hb
      have hle : s2.heap.objs.size ≤ b := by
        rcases e' with z | z
        · rw [z]; exact Nat.le_add_right _ _
        · rw [z]; exact Nat.le_refl _
      exact I2.fpOk hle (I2.hok.fresh hle)
theorem walk_enumS {K : PySem.W.Frag} {k : Nat} {a : Addr} {xs : List V} : Walk (IteS K k a) xs.length (fun H => SqL K H a xs) (YPair (fun i => some (.int ((k : Int) + (i : Int)))) (fun i => xs[i]?)) := by
  refine ⟨fun i _ hi q => ⟨xs, xs[i], q, by simp [hi]⟩, fun _ q => ⟨xs, q, Nat.le_refl _⟩, fun i H v H' _ q y => ?_⟩
  obtain ⟨T, x, h1, h2, h3, h4⟩ := y
  exact ⟨T, .int ((k : Int) + (i : Int)), x, h1, h2, h3, rfl, h4 xs q⟩
/-- numbered from k -/
def enumK (k : Nat) (ds : List D) : List D := (List.range ds.length).zipWith (fun (i : Nat) d => D.tup [.int ((k : Int) + (i : Int)), d]) ds
theorem enumK_len (k : Nat) (ds : List D) : (enumK k ds).length = ds.length := by simp [enumK]
theorem enumK_get {k : Nat} {ds : List D} {i : Nat} {d : D} (h : (enumK k ds)[i]? = some d) : ∃ d', ds[i]? = some d' ∧ d = .tup [.int ((k : Int) + (i : Int)), d'] := by
  have hi : i < ds.length := by have := (List.getElem?_eq_some_iff.mp h).1; rwa [enumK_len] at this
  refine ⟨ds[i], by simp [hi], ?_⟩
  unfold enumK at h
  rw [List.getElem?_zipWith, List.getElem?_range hi, List.getElem?_eq_getElem hi] at h
  exact (Option.some.inj h).symm
theorem id_enumS {X : Cx} {ρ : En} {a : Expr} {k kc : Nat} {pos x0 x1 : Pos} {ds : List D} {elts : List Expr} {kk : Nat} {tpos p : Pos} (hg : Gl X "enumerate") (hm : X.mg "enumerate" = none) (ha : ED X ρ a (.lst ds)) (hk : k < 1000 := by decide) (hs2 : starEach [a] X.env = (false, eval a X.env) :: starEach [] X.env := by rfl)
    (h1' : backTo pos (starEach [a] X.env) = (false, eval a X.env) :: backTo pos (starEach [] X.env) := by rfl) (h2 : (backTo pos (starEach [a] X.env)).any (·.1) = false := by rfl)
    (h3 : (backToKw pos (keywordEach [⟨some "start", .Constant (.int (k : Int)) kc x0, x1⟩] X.env)).all (·.1.isSome) = true := by rfl) (h4 : (backToKw pos (keywordEach [⟨some "start", .Constant (.int (k : Int)) kc x0, x1⟩] X.env)).any (·.1.isNone) = false := by rfl) (h5 : (backToKw pos (keywordEach [⟨some "start", .Constant (.int (k : Int)) kc x0, x1⟩] X.env)).filterMap (·.1) = [("start" : Str)] := by rfl) :
    ID X ρ (.Tuple elts kk tpos) (.Call (.Name "enumerate" p) [a] [⟨some "start", .Constant (.int (k : Int)) kc x0, x1⟩] pos) (enumK k ds) := fun B0 B σ H0 H R j kq =>
  ⟨_, pi_enumS hg hm DL.pa_star hk h1' h2 h3 h4 h5, ad_cons (X := X) ha ad_nil hs2 B0 B σ H0 H _ j fun vs G0 G g r => by
    obtain ⟨x, rfl, q, ys, rfl, h1, h2⟩ := r.one'
    refine ⟨q, ys, rfl, g.sh.seq h1, kq _ G0 G g (dw_pair (f := fun _ => none) (g := fun _ => none) walk_enumS (by rw [enumK_len, DRs.length h2]) (fun H1 H s1 s2 => (s1.trans s2).seq h1) fun i d hd => ?_)⟩
    obtain ⟨d', e1, rfl⟩ := enumK_get hd
    obtain ⟨v, e2, e3⟩ := DRs.get h2 e1
    refine ⟨_, _, rfl, fun v hv => ?_, fun v' hv => ?_⟩
    · cases hv; rfl
    · rw [e2] at hv; cases hv; exact e3⟩
theorem cutDrop (l : List D) {k : Int} (h : 0 ≤ k) : cutD l (some k) none = l.drop k.toNat := by
  unfold cutD
  show (l.drop (HT.sIx l.length 0 (some k))).take (l.length - HT.sIx l.length 0 (some k)) = _
  have e : HT.sIx l.length 0 (some k) = min k.toNat l.length := by
    unfold HT.sIx; simp only; split <;> omega
  rw [e, List.take_of_length_le (by rw [List.length_drop]; exact Nat.le_refl _)]
  by_cases hk : k.toNat ≤ l.length
  · rw [Nat.min_eq_left hk]
  · rw [Nat.min_eq_right (by omega), List.drop_eq_nil_of_le (Nat.le_refl _), List.drop_eq_nil_of_le (by omega)]
end DL
namespace DL
open PySem PySem.Spec PyProof.Rows L2
theorem CirOk.perm {n : Int} {N M : List Nm} {V : List Dev} (ok : CirOk n N V) (p : M.Perm N) : CirOk n M V :=
  ⟨ok.nn, fun q hq => ok.nm q (p.mem_iff.mp hq), (p.map _).nodup_iff.mpr ok.d1, (p.map _).nodup_iff.mpr ok.d2, by rw [p.length_eq]; exact ok.nl, ok.vl, ok.dv⟩
theorem CirOk.filter {n : Int} {N : List Nm} {V : List Dev} (ok : CirOk n N V) (p : Nm → Bool) : CirOk n (N.filter p) V :=
  ⟨ok.nn, fun q hq => ok.nm q (List.mem_filter.mp hq).1, ok.d1.sublist (List.Sublist.map _ List.filter_sublist), ok.d2.sublist (List.Sublist.map _ List.filter_sublist), Nat.le_trans (List.length_filter_le _ _) ok.nl, ok.vl, ok.dv⟩
end DL
namespace DL
open PySem PySem.Spec PyProof.Rows L2
/-- alike but for a dict at a, that is locked in one -/
structure Fz (a : Addr) (t : List (List Key × V)) (H H' : Hp) : Prop where
  at1 : Rd H a (.dT t)
  at2 : Rd H' a (.dT t)
  ne : ∀ b, b ≠ a → H' b = H b
theorem Rd.uniq {H : Hp} {a : Addr} {u w : HO} (h : Rd H a u) (k : Rd H a w) (hu : ∀ o x, u ≠ .frz o x) (hw : ∀ o x, w ≠ .frz o x) : u = w := by
  rcases h with h | ⟨o, h⟩ <;> rcases k with k | ⟨o', k⟩
  · exact Option.some.inj (h.symm.trans k)
  · exact absurd (Option.some.inj (h.symm.trans k)) (hu _ _)
  · exact absurd (Option.some.inj (k.symm.trans h)) (hw _ _)
  · have := Option.some.inj (h.symm.trans k); injection this
theorem Fz.rd {a : Addr} {t : List (List Key × V)} {H H' : Hp} (f : Fz a t H H') {b : Addr} {u : HO} (hu : ∀ o x, u ≠ .frz o x) (h : Rd H b u) : Rd H' b u := by
  by_cases e : b = a
  · subst e
    rw [Rd.uniq h f.at1 hu (fun _ _ z => by cases z)]
    exact f.at2
  · rcases h with h | ⟨o, h⟩
    · exact .inl (by rw [f.ne b e]; exact h)
    · exact .inr ⟨o, by rw [f.ne b e]; exact h⟩
theorem c2_notInSq {X : Cx} {p1 p2 : Int} {ks : List Sq} (hu : X.A.units + 64 < cLine) : C2 X .NotIn (.tup [.int p1, .int p2]) (dicD ks).d (.bl (!decide ((p1, p2) ∈ ks))) := ⟨_, op_notInSq (by omega), fun H0 H x y Q s r1 r2 kk => by
  obtain ⟨b, vs, rfl, f1, r⟩ := r1
  obtain ⟨u, w, rfl, e2, e3⟩ := r.two
  cases (show u = .int p1 from e2); cases (show w = .int p2 from e3)
  obtain ⟨a, rfl, h1⟩ := dr_dic r2
  exact ⟨a, b, _, kq (p1, p2), rfl, rfl, Same.rd s h1, Same.seqT s f1, by rw [tT_val]; exact kk _ H0 H (JH.refl s) rfl⟩⟩
end DL
namespace DL
open PySem PySem.Spec PyProof.Rows L2
theorem str_small {x : Str} (h : x.cps.toList.all chB = true) : smallStr x := by
  show PyData.strOk x = true
  unfold PyData.strOk
  rw [Array.all_eq_true]
  intro i hi
  have := List.all_eq_true.mp h x.cps[i] (Array.mem_def.mp (Array.getElem_mem hi))
  unfold chB loB at this
  simp only [Bool.or_eq_true, Bool.and_eq_true, decide_eq_true_eq] at this ⊢
  omega
theorem name_small {x : Str} (h : nameB x = true) : smallStr x := by
  unfold nameB at h
  simp only [Bool.and_eq_true] at h
  exact str_small h.2.2
theorem DevOk.up {n m : Int} {v : Dev} (h : DevOk n v) (hm : n ≤ m) : DevOk m v := ⟨h.k, ⟨h.g.1, by have := h.g.2; omega⟩, ⟨h.e.1, h.e.2.1, by have := h.e.2.2; omega⟩, h.w, h.l⟩
theorem CirOk.up {n : Int} {N : List Nm} {V : List Dev} (ok : CirOk n N V) (h : n ≤ 100) : CirOk (n + 1) N V :=
  ⟨by have := ok.nn; omega, fun q hq => ⟨by have := (ok.nm q hq).1; omega, (ok.nm q hq).2⟩, ok.d1, ok.d2, ok.nl, ok.vl, fun v hv => (ok.dv v hv).up (by omega)⟩
theorem CirOk.more {n : Int} {N : List Nm} {V : List Dev} {z : Str} (ok : CirOk n N V) (h : n ≤ 100) (hl : N.length ≤ 100) (hz : nameB z = true) (hn : ∀ q ∈ N, q.2 ≠ z) : CirOk (n + 1) (N ++ [(n, z)]) V := by
  have up := ok.up h
  refine ⟨up.nn, fun q hq => ?_, ?_, ?_, by rw [List.length_append]; simp only [List.length_cons, List.length_nil]; omega, ok.vl, up.dv⟩
  · rcases List.mem_append.mp hq with hq | hq
    · exact up.nm q hq
    · rw [List.mem_singleton] at hq; subst hq
      exact ⟨by have := ok.nn; simp only; omega, hz⟩
  · rw [List.map_append, List.nodup_append]
    refine ⟨ok.d1, by simp, fun a ha b hb e => ?_⟩
    obtain ⟨q, hq, rfl⟩ := List.mem_map.mp ha
    simp only [List.map_cons, List.map_nil, List.mem_singleton] at hb
    have := (ok.nm q hq).1
    omega
  · rw [List.map_append, List.nodup_append]
    refine ⟨ok.d2, by simp, fun a ha b hb e => ?_⟩
    obtain ⟨q, hq, rfl⟩ := List.mem_map.mp ha
    simp only [List.map_cons, List.map_nil, List.mem_singleton] at hb
    exact hn q hq (e.trans hb)
theorem CirOk.devs {n : Int} {N : List Nm} {V W : List Dev} (ok : CirOk n N V) (h : W.length ≤ 200) (hd : ∀ v ∈ W, DevOk n v) : CirOk n N W := ⟨ok.nn, ok.nm, ok.d1, ok.d2, ok.nl, h, hd⟩
theorem CirOk.names {n : Int} {N M : List Nm} {V : List Dev} (ok : CirOk n N V) (h : M.Sublist N) : CirOk n M V :=
  ⟨ok.nn, fun q hq => ok.nm q (h.subset hq), (h.map _).nodup ok.d1, (h.map _).nodup ok.d2, Nat.le_trans h.length_le ok.nl, ok.vl, ok.dv⟩
def zz : Str := "zz9z"
theorem zz_ok : nameB zz = true := by decide +kernel
def wid (v : Dev) : Dev := ⟨v.k, v.g, v.a, v.b, v.w + 1, v.l⟩
theorem wid_ok {n : Int} {v : Dev} (h : DevOk n v) : DevOk n (wid v) := ⟨h.k, h.g, h.e, by have := h.w; show 1 ≤ v.w + 1; omega, h.l⟩
/-- all the law needs of a drawn circuit -/
structure Drn (n : Int) (N : List Nm) (V : List Dev) : Prop where
  ok : CirOk n N V
  n : n ≤ 14
  nl : N.length ≤ 14
  vl : V.length ≤ 12
  z : ∀ q ∈ N, q.2 ≠ zz
section
variable {n : Int} {N : List Nm} {V V0 : List Dev} {v : Dev}
theorem Drn.a (h : Drn n N V) : CirOk (n + 1) N V := h.ok.up (by have := h.n; omega)
theorem Drn.b (h : Drn n N V) : CirOk (n + 1) (N ++ [(n, zz)]) V := h.ok.more (by have := h.n; omega) (by have := h.nl; omega) zz_ok h.z
theorem Drn.c (h : Drn n N V) (e : V = V0 ++ [v]) : CirOk n N V0 := h.ok.devs (by have := h.vl; rw [e, List.length_append] at this; omega) fun w hw => h.ok.dv w (by rw [e]; simp [hw])
theorem Drn.d (h : Drn n N V) (e : V = V0 ++ [v]) : CirOk n N (V ++ [v]) := h.ok.devs (by have := h.vl; rw [List.length_append]; simp only [List.length_cons, List.length_nil]; omega) fun w hw => by
  rcases List.mem_append.mp hw with hw | hw
  · exact h.ok.dv w hw
  · rw [List.mem_singleton] at hw; subst hw; exact h.ok.dv w (by rw [e]; simp)
theorem Drn.e (h : Drn n N V) (e : V = V0 ++ [v]) : CirOk n N (V0 ++ [wid v]) := h.ok.devs (by have := h.vl; rw [e] at this; rw [List.length_append] at this ⊢; exact Nat.le_trans this (by omega)) fun w hw => by
  rcases List.mem_append.mp hw with hw | hw
  · exact h.ok.dv w (by rw [e]; simp [hw])
  · rw [List.mem_singleton] at hw; subst hw; exact wid_ok (h.ok.dv v (by rw [e]; simp))
theorem Drn.g (h : Drn n N V) : CirOk n (N.drop 1) V := h.ok.names (List.drop_sublist 1 N)
theorem Drn.r (h : Drn n N V) : CirOk n N.reverse V := h.ok.perm N.reverse_perm
end
end DL
namespace DL
open PySem PySem.Spec PyProof.Rows L2
section
variable {K : PySem.W.Frag} {B0 B H0 H : Hp} {σ : L2.St} {ρ : En}
/-- some cells of a slot are let go, the rest in any order -/
theorem J.pick (j : J K B0 B σ H0 H ρ) {i : Nat} {cs cs' : Cs} {d : D} (h : ρ[i]? = some (.ox cs d)) (p : ∀ x ∈ cs', x ∈ cs) (nd : (pl cs).Nodup → (pl cs').Nodup) : J K B0 B σ H0 H (ρ.set i (.ox cs' d)) := by
  obtain ⟨ov, e1, f1, f2, f3⟩ := j.get h
  exact j.setSl (s := .ox cs' d) e1 ⟨f1, fun q hq => f2 q (p q hq), nd f3⟩ (j.sub h e1 fun a w => by
    have w' : a ∈ cs'.map (·.1) := w
    obtain ⟨x, hx, rfl⟩ := List.mem_map.mp w'
    exact List.mem_map.mpr ⟨x, p x hx, rfl⟩)
end
section
variable {X : Cx} {ρ : En} {e : Expr} {pos : Pos} {d : D} {cn : Str} {fs ns : List Str} {ds : List D} {f : Str} {Φ : Out → Prop} {rest : List Stmt}
theorem ws_pick (s : Nat) {cs cs' : Cs} {d0 : D} (hρ : ρ[s]? = some (.ox cs d0)) (p : ∀ x ∈ cs', x ∈ cs) (nd : (pl cs).Nodup → (pl cs').Nodup) (h : WSs X rest (ρ.set s (.ox cs' d0)) Φ) : WSs X rest ρ Φ := fun B0 B σ H0 H Dn j k => h B0 B σ H0 H Dn (j.pick hρ p nd) k
/-- self.f = e again, cells beside it -/
theorem ws_setFCU (s m : Nat) {a : Addr} {x : Str} {p pos' : Pos} {value : Expr} {cs : Cs} (kl : Kl X.K X.mg cn fs) (hρ : ρ[s]? = some (.ox ((a, .ins cn ns ds) :: cs) (.ad a))) (hv : ED X ρ value d) (hΦ : Φ (.nx (ρ.set s (.ox ((a, .ins cn ns (ds.set m d)) :: cs) (.ad a)))))
    (hold : ns[m]? = some f := by rfl) (hu : (ns.take m).contains f = false := by decide +kernel) (hf : f ∈ fs := by decide +kernel) (hlt : ns.length < 1000 := by decide)
    (hN : X.N[s]? = some x := by rfl) (hvis : Vis X.env.scope x := by first | exact Or.inl rfl | exact Or.inr (Or.inl rfl) | exact Or.inr (Or.inr rfl)) (hdb : (x == ("__debug__" : Str)) = false := by decide) (hcd : (x == ("__classdict__" : Str)) = false := by decide)
    (hs : swapsWith value (some (.Attribute (.Name x p) f pos')) pos.line X.env = pure false := by rfl) : WS X (.Assign [.Attribute (.Name x p) f pos'] value pos) ρ Φ := fun B0 B σ H0 H Dn j k => by
  refine ⟨_, ps_fld (pe_var hN hvis hdb hcd) pe_star hs, hv B0 B σ H0 H _ j fun v G0 G g r => ?_⟩
  have j1 := j.grow g
  obtain ⟨ov, e1, ⟨v1, rfl, rv⟩, hcs, nd⟩ := j1.get hρ
  cases (show v1 = .ref a from rv)
  obtain ⟨o, h1, h2, h3, vs, C, dx, rfl, hC, hlen, hvs⟩ := (hcs _ (List.mem_cons_self ..)).ex
  obtain ⟨C', hC', hm, hc, hk, hna⟩ := kl.ex
  rw [hC] at hC'; cases hC'
  have hl : (ns.zip vs).length < 1000 := by rw [List.length_zip]; omega
  refine ⟨_, e1, a, C, dx, _, rfl, h1, hc.cl, hna f hf, hl, ?_⟩
  rw [putF_old hold hu hlen]
  have hds : DRs X.K G0 (ds.set m d) (vs.set m v) := DRs.set r m hvs
  have j2 := j1.put (c' := .ins cn ns (ds.set m d)) (o := .ins C dx (ns.zip (vs.set m v))) hρ (List.mem_cons_self ..) ⟨vs.set m v, C, dx, rfl, hC, by simp [hlen], hds⟩
  rw [putC_hd nd] at j2
  exact k _ hΦ _ _ _ j2
def TP (X : Cx) (ρ : En) (e : Expr) (Ψ : Bool → En → Prop) : Prop := ∀ B0 B σ H0 H (Q : Bool → Hp → Prop), J X.K B0 B σ H0 H ρ → (∀ b ρ' H0' H', Ψ b ρ' → J X.K B0 B σ H0' H' ρ' → Q b H') → RT X e σ H Q
theorem tp_val {Ψ : D → En → Prop} (h : EP X ρ e Ψ) (hb : ∀ d ρ', Ψ d ρ' → ∃ b, d = .bl b) (he : ∀ whole, isTrue e X.env whole = (do let v ← whole; standAt e.pos; holding [v] (truthy v)) := by intro _; rfl) : TP X ρ e (fun b ρ' => Ψ (.bl b) ρ') := fun B0 B σ H0 H Q j kk =>
  RT.of (pt_val pe_star he) (h B0 B σ H0 H _ j fun d ρ' v H0' H' w s1 j1 r => by
    obtain ⟨b, rfl⟩ := hb d ρ' w
    exact ⟨b, r, kk b ρ' H0' H' w j1⟩)
theorem tp_not {Ψ : Bool → En → Prop} (h : TP X ρ e Ψ) : TP X ρ (.UnaryOp .Not e pos) (fun b ρ' => Ψ (!b) ρ') := fun B0 B σ H0 H Q j kk =>
  RT.of (pt_not pt_star) (h B0 B σ H0 H _ j fun b ρ' H0' H' w j1 => kk (!b) ρ' H0' H' (by show Ψ (!!b) ρ'; rw [Bool.not_not]; exact w) j1)
theorem ws_ifP {Ψ : Bool → En → Prop} {sa sb : List Stmt} (hc : TP X ρ e Ψ) (h1 : ∀ ρ', Ψ true ρ' → WSs X sa ρ' Φ) (h2 : ∀ ρ', Ψ false ρ' → WSs X sb ρ' Φ) : WS X (.If e sa sb pos) ρ Φ := fun B0 B σ H0 H Dn j kk => by
  refine ⟨_, ps_if pt_star pss_star pss_star, hc B0 B σ H0 H _ j fun b ρ' H0' H' w j1 => ?_⟩
  cases b with
  | true => exact iteT (h1 ρ' w B0 B σ H0' H' Dn j1 kk)
  | false => exact iteF (h2 ρ' w B0 B σ H0' H' Dn j1 kk)
end
mutual
def noT : D → Bool
  | .tup ds => noTs ds
  | .non => true
  | .bl _ => true
  | .int _ => true
  | .str _ => true
  | _ => false
def noTs : List D → Bool
  | [] => true
  | d :: ds => noT d && noTs ds
end
theorem noTs_map {α : Type} {f : α → D} (h : ∀ x, noT (f x) = true) : ∀ xs : List α, noTs (xs.map f) = true
  | [] => rfl
  | x :: xs => by show (noT (f x) && noTs (xs.map f)) = true; rw [h x, noTs_map h xs]; rfl
/-- no tuple stands at these places -/
def NoTup (K : PySem.W.Frag) (H : Hp) (as : List Addr) : Prop := ∀ b ∈ as, ∀ xs, ¬ Rd H b (.tup xs)
theorem ers_sqT {K : PySem.W.Frag} {H : Hp} {as : List Addr} (h : NoTup K H as) {b : Addr} {vs : List V} (r : SqT K H b vs) : SqT K (ers H as) b vs := by
  rcases r with r | r
  · have nb : b ∉ as := fun m => h b m _ r
    refine .inl ?_
    rcases r with r | ⟨o, r⟩
    · exact .inl (by rw [ers_out nb]; exact r)
    · exact .inr ⟨o, by rw [ers_out nb]; exact r⟩
  · exact .inr r
mutual
theorem ers_dr {K : PySem.W.Frag} {H : Hp} {as : List Addr} (h : NoTup K H as) : ∀ (d : D) (v : V), noT d = true → DR K H d v → DR K (ers H as) d v
  | .tup ds, v, n, r => by
    obtain ⟨a, vs, rfl, h1, h2⟩ := r
    exact ⟨a, vs, rfl, ers_sqT h h1, ers_drs h ds vs n h2⟩
  | .non, v, n, r => r
  | .bl _, v, n, r => r
  | .int _, v, n, r => r
  | .str _, v, n, r => r
  | .lst _, v, n, r => by cases n
  | .dk _ _, v, n, r => by cases n
  | .dt _ _, v, n, r => by cases n
  | .obj _ _ _, v, n, r => by cases n
  | .ad _, v, n, r => by cases n
  | .ptp _, v, n, r => by cases n
  | .etp _, v, n, r => by cases n
  | .exc _ _ _ _, v, n, r => by cases n
  | .ty _, v, n, r => by cases n
theorem ers_drs {K : PySem.W.Frag} {H : Hp} {as : List Addr} (h : NoTup K H as) : ∀ (ds : List D) (vs : List V), noTs ds = true → DRs K H ds vs → DRs K (ers H as) ds vs
  | [], vs, n, r => r
  | d :: ds, vs, n, r => by
    obtain ⟨v, w, rfl, h1, h2⟩ := r
    have n' : (noT d && noTs ds) = true := n
    rw [Bool.and_eq_true] at n'
    exact ⟨v, w, rfl, ers_dr h d v n'.1 h1, ers_drs h ds w n'.2 h2⟩
end
/-- an own thing is no tuple -/
theorem ocr_nt {K : PySem.W.Frag} {H' : Hp} : ∀ {c : OC} {o : HO}, OCR K H' c o → (∀ o2 xs, o ≠ .frz o2 (.tup xs)) ∧ ∀ xs, o ≠ .tup xs
  | .lst _, _, ⟨vs, h1, h2⟩ => by subst h1; exact ⟨fun _ _ z => by injection z, fun _ z => by injection z⟩
  | .dk _ _, _, ⟨vs, h1, h3, h2⟩ => by subst h1; exact ⟨fun _ _ z => by injection z, fun _ z => by injection z⟩
  | .dt _ _, _, ⟨vs, h1, h3, h2⟩ => by subst h1; exact ⟨fun _ _ z => by injection z, fun _ z => by injection z⟩
  | .fk _ _, _, ⟨vs, od, h1, h3, h2⟩ => by subst h1; exact ⟨fun _ _ z => by injection z with _ z; injection z, fun _ z => by injection z⟩
  | .ft _ _, _, ⟨vs, od, h1, h3, h2⟩ => by subst h1; exact ⟨fun _ _ z => by injection z with _ z; injection z, fun _ z => by injection z⟩
  | .ins _ _ _, _, ⟨vs, C, dx, h1, hn, h3, h2⟩ => by subst h1; exact ⟨fun _ _ z => by injection z, fun _ z => by injection z⟩
theorem ocr_tup {K : PySem.W.Frag} {H H' : Hp} {c : OC} {b : Addr} {o : HO} (h : OCR K H' c o) (e : H b = some o) (xs : List V) : ¬ Rd H b (.tup xs) := fun r => by
  have key := ocr_nt h
  rcases r with r | ⟨o2, r⟩
  · rw [e] at r; exact key.2 xs (Option.some.inj r)
  · rw [e] at r; exact key.1 o2 xs (Option.some.inj r)
section
variable {K : PySem.W.Frag} {B0 B H : Hp} {σ : L2.St} {i : Nat} {d : D}
theorem shareAllC : ∀ {cs : Cs} {H0 : Hp} {ρ : En}, J K B0 B σ H0 H ρ → ρ[i]? = some (.ox cs d) → ∃ H0', J K B0 B σ H0' H (ρ.set i (.sh d)) ∧ Same H0 H0' ∧ (∀ p ∈ cs, DR K H0' p.2.d (.ref p.1)) ∧ (∀ b, b ∉ pl cs → H0' b = H0 b) ∧ (∀ b ∈ pl cs, H0 b = none) ∧ ∀ p ∈ cs, ∃ o H2, H0' p.1 = some o ∧ OCR K H2 p.2 o
  | [], H0, ρ, j, h => by
    obtain ⟨ov, e1, h1, h2, h3⟩ := j.get h
    exact ⟨H0, j.setSl (s := .sh d) e1 h1 (fun a w => w.elim), Same.refl _, fun p hp => by simp at hp, fun _ _ => rfl, fun b hb => by simp at hb, fun p hp => by simp at hp⟩
  | (a, c) :: cs, H0, ρ, j, h => by
    obtain ⟨ov, e1, ⟨v, h1, h1'⟩, h2, h3⟩ := j.get h
    obtain ⟨o, f1, f2, f3, f4⟩ := j.cell h (List.mem_cons_self ..)
    have nd := List.nodup_cons.mp h3
    have s0 : Same H0 (upd H0 a o) := fun b u e => upd_keep e (fun z => by subst z; rw [f2] at e; cases e)
    obtain ⟨j1, s1⟩ := j.shareAt (s' := .ox cs d) (c := c) h e1 (List.mem_cons_self ..) f1 f4 (fun b w => ⟨List.mem_cons_of_mem _ w, fun z => nd.1 (z ▸ w)⟩) fun r => ⟨⟨v, h1, DR.mono s0 _ _ h1'⟩, fun p hp => by
      obtain ⟨ob, g2, g3, g4, g5⟩ := (h2 p (List.mem_cons_of_mem _ hp)).ex
      exact ⟨ob, g2, by rw [upd_ne (fun z => nd.1 (by rw [← z]; exact List.mem_map.mpr ⟨p, hp, rfl⟩))]; exact g3, g4, g5.mono s0⟩, nd.2⟩
    obtain ⟨H1, j3, s3, r3, n3, z3, o3⟩ := shareAllC (cs := cs) j1 (by rw [List.getElem?_set_self (List.getElem?_eq_some_iff.mp h).1])
    rw [List.set_set] at j3
    refine ⟨H1, j3, s1.trans s3, fun p hp => ?_, fun b hb => ?_, fun b hb => ?_, fun p hp => ?_⟩
    · rcases List.mem_cons.mp hp with rfl | hp
      · exact DR.mono s3 _ _ (OCR.dr f2 f4)
      · exact r3 p hp
    · have hb' : b ≠ a ∧ b ∉ pl cs := by simpa [pl] using hb
      rw [n3 b hb'.2, upd_ne hb'.1]
    · have hb' : b = a ∨ b ∈ pl cs := by simpa [pl] using hb
      rcases hb' with rfl | hb'
      · exact f2
      · have := z3 b hb'
        by_cases hba : b = a
        · subst hba; exact f2
        · rwa [upd_ne hba] at this
    · rcases List.mem_cons.mp hp with rfl | hp
      · exact ⟨o, _, s3 _ _ upd_same, f4⟩
      · exact o3 p hp
end
theorem vals_snd {κ : Type} : ∀ {kvs : List (κ × V)} {xs : List (κ × Value)}, KV kvs xs → Vals (kvs.map (·.2)) (xs.map (·.2))
  | _, _, .nil => .nil
  | _, _, .cons h t => .cons h.2 (vals_snd t)
theorem items_snd {κ : Type} {xs : List (κ × Value)} {acc : Array Value} (h : ItemsOf (fun i v => ∃ k, xs[i]? = some (k, v)) acc xs.length) : acc.toList = xs.map (·.2) := by
  refine List.ext_getElem? fun i => ?_
  rw [List.getElem?_map]
  by_cases hi : i < xs.length
  · have ha : i < acc.toList.length := by rw [Array.length_toList]; have := h.1; omega
    have e : acc[i]? = some acc.toList[i] := by rw [← Array.getElem?_toList, List.getElem?_eq_getElem ha]
    obtain ⟨k, hk⟩ := h.2 i _ e
    rw [hk, List.getElem?_eq_getElem ha]; rfl
  · rw [List.getElem?_eq_none (by rw [Array.length_toList]; have := h.1; omega), List.getElem?_eq_none (by omega)]; rfl
section
variable {X : Cx} {ρ : En} {o : Expr} {p q1 pos cpos apos : Pos} {to : TE}
theorem pe_listVals (hc : X.calm = true) (hg : Gl X "list") (hm : X.mg "list" = none) (ho : PE X o to) (hbase : attributeBase o "values" X.env (eval o X.env) = eval o X.env := by rfl) (hline : (apos.endLine == cpos.line) = true := by rfl)
    (hs : starEach [.Call (.Attribute o "values" apos) [] [] cpos] X.env = [(false, eval (.Call (.Attribute o "values" apos) [] [] cpos) X.env)] := by rfl) :
    PE X (.Call (.Name "list" p) [.Call (.Attribute o "values" apos) [] [] cpos] [] pos) (fun σ H Q => to σ H fun x H1 => ∃ a kvs, x = V.ref a ∧ Rd H1 a (.dK kvs) ∧ ∀ r, H1 r = none → Q (.ref r) (upd H1 r (.lst (kvs.map (·.2))))) := by
  refine ⟨fun pins s σ H Q I h => ?_⟩
  refine Call_ (ld_blt I hg hm bb_list (PyProof.Rows.callWith_type1 (args_cons ?_) hs rfl))
  refine wpAny_Call_method (T := "dict") (id := "dict.values") hbase rfl hline F.plainAttrs_dict F.slot_dict_values F.type_dict_values (thn (ho.run pins s σ H _ I h) fun u s1 ⟨x, H1, I1, rx, a, kvs, ex, hd, qq⟩ => ?_)
  subst ex
  obtain rfl : u = Value.ref a := rx
  obtain ⟨z, lo, xs, rel, dd⟩ := dk_rd I1.hok hd
  have hl : xs.length ≤ sizeLine := by rw [← rel.length]; exact z
  obtain ⟨ob, es, ep, hob, hex, hdat, q5⟩ := id dd
  refine ⟨dd.typeIs, dd.mapOf.noDict, ?_⟩
  have I2 : Inv X pins σ H1 { s1 with heap := s1.heap.push { cls := .type "dict_values", data := .fields #[.ref a] } } := I1.kept (t' := s1.toks) fun b ob q => Heap.get?_push_of_some _ q
  show wpAny _ _ (callWith cpos (.builtin "dict.values") [.ref a] [] []) _ X.xe s1
  refine method_meetsIn F.slot_dict_values F.entry_dict_values rfl (PySem.evalArgs_none ⟨rfl, dd.typeIs, F.args_dict_values_1 _, _, meets_dict_values (mixKind X.prog X.w) a lo, ⟨xs, dd⟩, ?_⟩)
  refine args_nil ?_
  have at0 : Heap.DictAt (mixKind X.prog X.w) s1.heap a xs ep := ⟨ob, es, hob, hex, hdat, q5⟩
  refine PySem.W.kdl_call (PySem.W.kdl_values (knd := mixKind X.prog X.w) (kvs := xs) (ep := ep)) (I2.ok.hd hc) ⟨⟨_, Heap.get?_push_size _ rfl, rfl, rfl⟩, at0.push _⟩ hl fun h' tk acc c' hk hS hacc => ?_
  have hv : Vals (kvs.map (·.2)) acc.toList := by
    rw [items_snd hacc]; exact vals_snd rel
  exact ⟨.ref _, _, I2.laid (t' := tk) hk (Nat.le_refl _) (show ObjOk X.prog X.w _ h' _ (.lst (kvs.map (·.2))) from ⟨by rw [List.length_map]; exact z, acc.toList, c', hv, by simpa using hS⟩), rfl, qq _ (I2.hok.fresh (Nat.le_refl _))⟩
theorem eo_listVals (i m : Nat) {a0 : Addr} {cs : Cs} {d0 : D} {ks : List Key} {ds : List D} (hc : X.calm = true) (hg : Gl X "list") (hm : X.mg "list" = none) (hi : ρ[i]? = some (.ox cs d0)) (hcm : cs[m]? = some (a0, OC.dk ks ds)) (ho : ED X ρ o (.ad a0)) (hbase : attributeBase o "values" X.env (eval o X.env) = eval o X.env := by rfl) (hline : (apos.endLine == cpos.line) = true := by rfl)
    (hs : starEach [.Call (.Attribute o "values" apos) [] [] cpos] X.env = [(false, eval (.Call (.Attribute o "values" apos) [] [] cpos) X.env)] := by rfl) :
    EO X ρ (.Call (.Name "list" p) [.Call (.Attribute o "values" apos) [] [] cpos] [] pos) (.lst ds) := fun B0 B σ H0 H Q j k => by
  refine RE.of (pe_listVals hc hg hm pe_star hbase hline hs) (ho B0 B σ H0 H _ j fun v G0 G g r => ?_)
  cases (show v = .ref a0 from r)
  have j1 := j.grow g
  obtain ⟨ob, f1, f2, f3, vs, rfl, hl, f4⟩ := j1.cell hi (List.mem_iff_getElem?.mpr ⟨m, hcm⟩)
  refine ⟨a0, _, rfl, .inl f1, fun q hq => ?_⟩
  have e : (ks.zip vs).map (·.2) = vs := by rw [List.map_snd_zip (Nat.le_of_eq hl.symm)]
  rw [e]
  have g2 : JH G0 G G0 (upd G q (.lst vs)) := JH.own g.sh hq
  exact k q _ _ _ (g.trans g2) upd_same (g.sh.free hq) (g.sB.free hq) ⟨vs, rfl, f4⟩
end
theorem call_lenDkR {X : Cx} : CallR X (.builtin "len") (fun xs H Q => ∃ a kvs, xs = [V.ref a] ∧ Rd H a (.dK kvs) ∧ Q (.int kvs.length) H) := by
  intro pins s σ H vs us Q I r h
  obtain ⟨a, kvs, rfl, hd, q⟩ := h
  rw [Vals.ref1 r]
  exact d_len I hd fun t s' I' => ⟨.int kvs.length, H, I', ⟨t, rfl⟩, q⟩
theorem bc_lenDk {X : Cx} {ks : List Key} {ds : List D} : BC X (.builtin "len") [.dk ks ds] (.int ks.length) := bc_keep call_lenDkR _ (fun _ => rfl) fun H0 H vs _ s r q => by
  obtain ⟨x, rfl, h⟩ := r.one'
  obtain ⟨a, ws, rfl, h1, h2, h3⟩ := h
  refine ⟨a, _, rfl, Same.rd s h1, ?_⟩
  rw [List.length_zip, ← h2, Nat.min_self]; exact q
/-- C(), whose __init__ keeps its instance for the maker -/
theorem ec_make0 {X : Cx} {ρ : En} {pos : Pos} {cn : Str} {k : Nat} {R : RIL} {Ψ : Addr → Cs → Prop} {p : Pos} (G : FnIL X.prog X.w X.K X.mg X.base cn k R) (hr : Room (k + 1) X.A) (hg : Gl X cn) (hR : ∀ a, R a [] (Ψ a))
    (hdb : (cn == ("__debug__" : Str)) = false := by decide +kernel) : EC X ρ (.Call (.Name cn p) [] [] pos) Ψ := fun B0 B σ H0 H Q j kk => by
  obtain ⟨C, f, fd, ps, hC, hm, M, F, hb⟩ := G.ex
  refine RE.of (pe_make0 (E := E0) M F hr hg hm hb .nil pass0 hdb) ?_
  intro x dx hx hdx hne
  have g : JH H0 H H0 H := JH.refl j.same
  have g0x : H0 x = none := g.sh.free hx
  have g0d : H0 dx = none := g.sh.free hdx
  have s1 : Same H0 (upd (upd H dx (.own x)) x (.ins C dx [])) := fun b u q => by
    rw [upd_ne (ne_of_none q g0x), upd_ne (ne_of_none q g0d)]
    exact g.sh b u q
  have sE : Same H (er (upd (upd H dx (.own x)) x (.ins C dx [])) x) := fun b u q => by
    have n1 := ne_of_none q hx
    rw [er_ne n1, upd_ne n1, upd_ne (ne_of_none q hdx)]
    exact q
  refine ⟨H0, x, C, dx, [], [], Ψ x, rfl, hC, s1, upd_same, g0x, rfl, hR x, fun cs' L0 L w gg hc nd => ⟨rfl, ?_⟩⟩
  refine kk x cs' L0 L w ⟨gg.s0, gg.sh, sE.trans gg.sB, fun b u q nt q' => gg.fr b u (sE b u q) nt q'⟩ (fun p hp => ?_) nd
  obtain ⟨o, q1, q2, q3, q4⟩ := (hc p hp).ex
  exact ⟨o, q1, q2, sE.free q3, q4⟩
theorem ws_retP2 {X : Cx} {ρ : En} {e : Expr} {pos : Pos} {Ψ : D → En → Prop} {Φ : Out → Prop} (h : EP X ρ e Ψ) (hΦ : ∀ d ρ', Ψ d ρ' → Φ (.rt d)) : WS X (.Return (some e) pos) ρ Φ := fun B0 B σ H0 H Dn j k =>
  ⟨_, ps_ret pe_star, h B0 B σ H0 H _ j fun d ρ' v H0' H' w s1 j1 r => k _ (hΦ d ρ' w) v H0' H' j1.hp r⟩
end DL
namespace DL
open PySem PySem.Spec PyProof.Rows L2
structure RdI (i : Int) : Prop where
  b : 0 ≤ i ∧ i < 10 ^ 30
theorem RdI.sm {i : Int} (h : RdI i) : Sm i := ⟨by have := h.b; omega⟩
theorem RdI.tl {i : Int} (h : RdI i) : (stI i).cps.toList = TL.numL i.toNat := by
  have := h.b
  have e := TL.tl_num i.toNat
  rw [show ((i.toNat : Nat) : Int) = i by omega] at e
  exact e
theorem RdI.len {i : Int} (h : RdI i) : (stI i).length ≤ 30 := by
  have := h.b
  have e : (stI i).length = (stI i).cps.toList.length := by rw [Array.length_toList]; rfl
  rw [e, h.tl]
  exact TL.numL_len (by decide) (by omega)
theorem RdI.dig {i : Int} (h : RdI i) : ∀ c ∈ (stI i).cps.toList, 48 ≤ c ∧ c ≤ 57 := fun c hc => by
  rw [h.tl] at hc
  exact TL.numL_digits _ c hc
theorem RdI.ne {i : Int} (h : RdI i) : (stI i).cps.toList ≠ [] := by rw [h.tl]; exact TL.numL_ne _
theorem dig_uni : ∀ c : Fin 10, Unicode.isDigit (48 + c.val) = true := by decide +kernel
theorem RdI.isdigit {i : Int} (h : RdI i) : Txt.isdigit (stI i) = true := by
  unfold Txt.isdigit
  have h1 : 0 < (stI i).length := by
    have := List.length_pos_iff.mpr h.ne
    rwa [Array.length_toList] at this
  rw [Bool.and_eq_true, ← Array.all_toList]
  refine ⟨decide_eq_true h1, List.all_eq_true.mpr fun c hc => ?_⟩
  obtain ⟨a, b⟩ := h.dig c hc
  have := dig_uni ⟨c - 48, by omega⟩
  rwa [show 48 + (c - 48) = c by omega] at this
theorem RdI.int {i : Int} (h : RdI i) : PySem.intText? (stI i) = some i := by
  have hb := h.b
  have e := TL.int_num (n := i.toNat) (by rw [← h.tl, Array.length_toList]; have := h.len; exact Nat.le_trans this (by decide))
  rwa [show ((i.toNat : Nat) : Int) = i by omega] at e
theorem num_first : ∀ n : Nat, 0 < n → (TL.numL n).getD 0 0 ≠ 48 := fun n => by
  induction n using Nat.strongRecOn with
  | _ n ih =>
    intro hn
    by_cases h : n < 10
    · rw [TL.numL_lt h]; show 48 + n ≠ 48; omega
    · rw [TL.numL_step (by omega)]
      have h1 := ih (n / 10) (by omega) (by omega)
      have h2 := TL.numL_ne (n / 10)
      cases q : TL.numL (n / 10) with
      | nil => exact absurd q h2
      | cons c r => rw [q] at h1; exact h1
theorem sgn_0 {c : Nat} (h : sgn c = ("0" : Str)) : c = 48 := by
  have e := congrArg (fun z : Str => z.cps.toList) h
  have e0 : ("0" : Str).cps.toList = [48] := by decide +kernel
  simp only [e0] at e
  have : [c] = [48] := e
  simpa using this
theorem RdI.head {i : Int} (h : RdI i) : (decide (stI i = ("0" : Str)) || !decide (sgn ((stI i).cps.toList.getD 0 0) = ("0" : Str))) = true := by
  have hb := h.b
  by_cases h0 : i = 0
  · subst h0
    rw [show decide (stI 0 = ("0" : Str)) = true by decide +kernel]; rfl
  · rw [decide_eq_false (p := sgn ((stI i).cps.toList.getD 0 0) = ("0" : Str)) (fun e => by
      have := sgn_0 e
      rw [h.tl] at this
      exact num_first i.toNat (by omega) this)]
    simp
theorem sub_minus (x : Str) (h : x.cps.toList.getD 0 0 ≠ 45) : Txt.startswith x "-" = false := by
  rw [Bool.eq_false_iff]
  intro z
  unfold Txt.startswith at z
  rw [Bool.and_eq_true] at z
  have h1 : x.cps.extract 0 (0 + ("-" : Str).length) = ("-" : Str).cps := by
    have := z.2
    change (x.cps.extract 0 (0 + ("-" : Str).length) == ("-" : Str).cps) = true at this
    exact eq_of_beq this
  have e1 : ("-" : Str).length = 1 := by decide +kernel
  have e2 : ("-" : Str).cps.toList = [45] := by decide +kernel
  have h2 := congrArg Array.toList h1
  rw [e1, e2, Array.toList_extract] at h2
  cases q : x.cps.toList with
  | nil => rw [q] at h2; simp at h2
  | cons c r =>
    rw [q] at h h2
    simp [List.extract_eq_drop_take] at h2
    exact h h2
theorem RdI.starts {i : Int} (h : RdI i) : Txt.startswith (stI i) "-" = false := sub_minus _ (by
  have h1 := h.ne
  have h2 := h.dig
  cases q : (stI i).cps.toList with
  | nil => exact absurd q h1
  | cons c r =>
    have := h2 c (by rw [q]; exact List.mem_cons_self)
    show c ≠ 45; omega)
structure WOk (w : Str) : Prop where
  s : 32 ∉ TL.tl w
  l : 10 ∉ TL.tl w
  n : w.length ≤ 41
theorem RdI.w {i : Int} (h : RdI i) : WOk (stI i) := ⟨fun m => by have := h.dig 32 m; omega, fun m => by have := h.dig 10 m; omega, by have := h.len; omega⟩
theorem name_w {x : Str} (h : nameB x = true) : WOk x := by
  have hl := nameB_len h
  unfold nameB at h
  simp only [Bool.and_eq_true] at h
  have ha := List.all_eq_true.mp h.2.2
  refine ⟨fun m => ?_, fun m => ?_, by omega⟩
  · have := ha 32 m; revert this; decide
  · have := ha 10 m; revert this; decide
theorem lit_w : WOk "nets" ∧ WOk "name" ∧ WOk "device" ∧ WOk "n" ∧ WOk "p" := by
  refine ⟨⟨?_, ?_, ?_⟩, ⟨?_, ?_, ?_⟩, ⟨?_, ?_, ?_⟩, ⟨?_, ?_, ?_⟩, ⟨?_, ?_, ?_⟩⟩ <;> decide +kernel
def wN (n : Int) : List Str := ["nets", stI n]
def wQ (q : Nm) : List Str := ["name", q.2, stI q.1]
def wV (v : Dev) : List Str := ["device", v.k, stI v.g, stI v.a, stI v.b, stI v.w, stI v.l]
abbrev lnW (ws : List Str) : Str := Str.join " " ws
def wsC (n : Int) (N : List Nm) (V : List Dev) : List (List Str) := wN n :: (N.map wQ ++ V.map wV)
structure TxOk (n : Int) (N : List Nm) (V : List Dev) : Prop where
  ok : CirOk n N V
  w : ∀ v ∈ V, v.w < 10 ^ 30 ∧ v.l < 10 ^ 30
theorem rd_small {i n : Int} (h : 0 ≤ i ∧ i < n) (hn : n ≤ 200) : RdI i := ⟨by omega⟩
theorem TxOk.q {n : Int} {N : List Nm} {V : List Dev} (t : TxOk n N V) {q : Nm} (h : q ∈ N) : RdI q.1 ∧ nameB q.2 = true := ⟨rd_small (t.ok.nm q h).1 t.ok.nn.2, (t.ok.nm q h).2⟩
structure DvT (v : Dev) : Prop where
  k : v.k = ("n" : Str) ∨ v.k = ("p" : Str)
  g : RdI v.g
  a : RdI v.a
  b : RdI v.b
  w : RdI v.w
  l : RdI v.l
theorem TxOk.v {n : Int} {N : List Nm} {V : List Dev} (t : TxOk n N V) {v : Dev} (h : v ∈ V) : DvT v := by
  have o := t.ok.dv v h
  have hn := t.ok.nn
  have hw := t.w v h
  have := o.g; have := o.e; have := o.w; have := o.l
  exact ⟨o.k, ⟨by omega⟩, ⟨by omega⟩, ⟨by omega⟩, ⟨by omega⟩, ⟨by omega⟩⟩
theorem wQ_ok {q : Nm} (h : RdI q.1 ∧ nameB q.2 = true) : ∀ w ∈ wQ q, WOk w := fun w hw => by
  have : w = "name" ∨ w = q.2 ∨ w = stI q.1 := by simpa [wQ] using hw
  rcases this with rfl | rfl | rfl
  · exact lit_w.2.1
  · exact name_w h.2
  · exact h.1.w
theorem wV_ok {v : Dev} (h : DvT v) : ∀ w ∈ wV v, WOk w := fun w hw => by
  have : w = "device" ∨ w = v.k ∨ w = stI v.g ∨ w = stI v.a ∨ w = stI v.b ∨ w = stI v.w ∨ w = stI v.l := by simpa [wV] using hw
  rcases this with rfl | rfl | rfl | rfl | rfl | rfl | rfl
  · exact lit_w.2.2.1
  · rcases h.k with e | e <;> rw [e]
    · exact lit_w.2.2.2.1
    · exact lit_w.2.2.2.2
  · exact h.g.w
  · exact h.a.w
  · exact h.b.w
  · exact h.w.w
  · exact h.l.w
theorem wN_ok {n : Int} (h : RdI n) : ∀ w ∈ wN n, WOk w := fun w hw => by
  have : w = "nets" ∨ w = stI n := by simpa [wN] using hw
  rcases this with rfl | rfl
  · exact lit_w.1
  · exact h.w
theorem TxOk.n {n : Int} {N : List Nm} {V : List Dev} (t : TxOk n N V) : RdI n := ⟨by have := t.ok.nn; omega⟩
/-- words of a line -/
theorem TxOk.ws {n : Int} {N : List Nm} {V : List Dev} (t : TxOk n N V) {ws : List Str} (h : ws ∈ wsC n N V) : ws ≠ [] ∧ ws.length ≤ 7 ∧ ∀ w ∈ ws, WOk w := by
  unfold wsC at h
  rw [List.mem_cons, List.mem_append, List.mem_map, List.mem_map] at h
  rcases h with rfl | ⟨q, hq, rfl⟩ | ⟨v, hv, rfl⟩
  · exact ⟨by simp [wN], by simp [wN], wN_ok t.n⟩
  · exact ⟨by simp [wQ], by simp [wQ], wQ_ok (t.q hq)⟩
  · exact ⟨by simp [wV], by simp [wV], wV_ok (t.v hv)⟩
theorem mem_joinL {S : List Nat} {c : Nat} : ∀ {ps : List (List Nat)}, c ∈ TL.joinL S ps → c ∈ S ∨ ∃ p ∈ ps, c ∈ p
  | [], h => by cases h
  | [p], h => .inr ⟨p, List.mem_cons_self, h⟩
  | p :: q :: r, h => by
    have h' : c ∈ p ++ (S ++ TL.joinL S (q :: r)) := h
    rw [List.mem_append, List.mem_append] at h'
    rcases h' with h | h | h
    · exact .inr ⟨p, List.mem_cons_self, h⟩
    · exact .inl h
    · rcases mem_joinL h with h | ⟨x, hx, h⟩
      · exact .inl h
      · exact .inr ⟨x, List.mem_cons_of_mem _ hx, h⟩
theorem sep_tl : TL.tl (" " : Str) = [32] ∧ TL.tl ("\n" : Str) = [10] := by decide +kernel
theorem ln_free {ws : List Str} (h : ∀ w ∈ ws, WOk w) : 10 ∉ TL.tl (lnW ws) := fun m => by
  unfold lnW at m
  rw [TL.tl_join, sep_tl.1] at m
  rcases mem_joinL m with m | ⟨p, hp, m⟩
  · simp at m
  · obtain ⟨w, hw, rfl⟩ := List.mem_map.mp hp
    exact (h w hw).l m
theorem ln_split {ws : List Str} (hne : ws ≠ []) (h : ∀ w ∈ ws, WOk w) : Txt.split (lnW ws) " " = ws := by
  unfold lnW
  rw [← TL.join_eq]
  exact TL.split_join sep_tl.1 (by decide +kernel) hne fun w hw => (h w hw).s
def nm0 : Nm := (0, "")
def lastN (dn : List Nm) : Int := if dn.length = 0 then -1 else (dn.getD (dn.length - 1) nm0).1
theorem DvT.all {v : Dev} (h : DvT v) : ∀ i ∈ ([v.g, v.a, v.b, v.w, v.l] : List Int), RdI i := fun i hi => by
  have hi : i = v.g ∨ i = v.a ∨ i = v.b ∨ i = v.w ∨ i = v.l := by simpa using hi
  rcases hi with rfl | rfl | rfl | rfl | rfl
  · exact h.g
  · exact h.a
  · exact h.b
  · exact h.w
  · exact h.l
end DL
namespace DL
open PySem PySem.Spec PyProof.Rows L2
structure BDev where
  k : Str
  g : Str
  e : Str
  o : Str
  w : Int
  l : Int
def BDev.d (v : BDev) : D := .tup [.str v.k, .str v.g, .str v.e, .str v.o, .int v.w, .int v.l]
structure BUse where
  n : Str
  N : List Str
def BUse.d (u : BUse) : D := .tup [.str u.n, .tup (u.N.map .str)]
structure Blk where
  n : Str
  P : List Str
  V : List BDev
  U : List BUse
def BDev.ns (v : BDev) : List Str := [v.g, v.e, v.o]
def latB (b : Blk) : List Str := (b.V.map BDev.ns).flatten ++ (b.U.map (·.N)).flatten
def kS (x : Str) : Key := Sum.inr x
def stepS (σ : List Str) (v : Str) : List Str := if v ∈ σ then σ else σ ++ [v]
def ownB (b : Blk) : List Str := (latB b).foldl stepS b.P
structure SRow where
  b : Blk
  dc : Int
  uc : Int
  nc : Int
def nmsB (R : List SRow) : List Str := R.map fun x => x.b.n
def keyB (R : List SRow) : List Key := R.map fun x => Sum.inr x.b.n
def cntB (f : SRow → Int) (R : List SRow) (n : Str) : Int := ((R.find? fun x => decide (x.b.n = n)).map f).getD 0
def ptB (x : SRow) : Int := (x.b.P.length : Int)
def newB (R : List SRow) (b : Blk) : SRow := ⟨b, (b.V.length : Int) + (b.U.map fun u => cntB SRow.dc R u.n).sum, (b.U.length : Int) + (b.U.map fun u => cntB SRow.uc R u.n).sum, ((ownB b).length : Int) + (b.U.map fun u => cntB SRow.nc R u.n - cntB ptB R u.n).sum⟩
def stepB (R : List SRow) (b : Blk) : List SRow := R ++ [newB R b]
def libB (bs : List Blk) : List SRow := bs.foldl stepB []
/-- a block by itself -/
structure BkOk (b : Blk) : Prop where
  n : nameB b.n = true
  p : ∀ x ∈ b.P, nameB x = true
  d : b.P.Nodup
  v : ∀ v ∈ b.V, v.k ∈ (["n", "p"] : List Str) ∧ (∀ x ∈ v.ns, nameB x = true) ∧ 1 ≤ v.w ∧ 1 ≤ v.l
  u : ∀ u ∈ b.U, nameB u.n = true ∧ ∀ x ∈ u.N, nameB x = true
  few : b.P.length ≤ 10 ∧ b.V.length ≤ 10 ∧ b.U.length ≤ 10
  fu : ∀ u ∈ b.U, u.N.length ≤ 10
/-- a block that may stand behind the ones before -/
structure CanB (R : List SRow) (b : Blk) : Prop where
  new : b.n ∉ nmsB R
  old : ∀ u ∈ b.U, u.n ∈ nmsB R
  pt : ∀ u ∈ b.U, (u.N.length : Int) = cntB ptB R u.n
def SchOk (bs : List Blk) : Prop := ∀ (k : Nat) b, bs[k]? = some b → CanB (libB (bs.take k)) b ∧ BkOk b
def bk0 : Blk := ⟨"a", [], [], []⟩
theorem nm_size {x : Str} (h : nameB x = true) : x.length ≤ sizeLine := by have := name_1000 h; rw [sizeLine_eq]; omega
end DL
namespace DL
open PySem PySem.Spec PyProof.Rows L2
section
variable {X : Cx} {ρ : En} {Φ : Out → Prop} {e a b : Expr} {pos : Pos} {d : D} {rest : List Stmt}
/-- for x in xs: the slots by the turn, by something that is there (g) and by what one doesn't care for (u) -/
theorem ws_forX {α U γ : Type} {tg iter : Expr} {ds : List D} (xs : List α) (enc : α → D) {body : List Stmt} (hc : X.calm = true) (hi : ID X ρ tg iter ds) (he : ds = xs.map enc) (G : Nat → γ → U → List (Nat × Sl)) (V : En → U) (P : Nat → γ → Prop) (g0 : γ) (hρ : upds ρ (G 0 g0 (V ρ)) = ρ) (h0 : P 0 g0)
    (hs : ∀ i x g u, xs[i]? = some x → P i g → ∃ is ρ'', DG X is tg (enc x) (upds ρ (G i g u)) ρ'' ∧ WSs X body ρ'' (fun o => match o with | .nx r => ∃ g', upds ρ (G (i + 1) g' (V r)) = r ∧ P (i + 1) g' | .ct r => ∃ g', upds ρ (G (i + 1) g' (V r)) = r ∧ P (i + 1) g' | .bk r => Φ (.nx r) | .rt v => Φ (.rt v) | .ro c => Φ (.ro c) | .rc v cs => Φ (.rc v cs)))
    (hd : ∀ g u, P xs.length g → Φ (.nx (upds ρ (G xs.length g u))))
    (hp : PassesOwn (model X.prog X.w) X.A X.env X.xe := by exact PassesOwn.never) (hf : ∀ x, foldedSetIterable iter X.env x = pure x := by intro _; rfl) : WS X (.For tg iter body [] pos) ρ Φ := by
  refine ws_forT xs enc hc hi he (fun i r => ∃ g, (∃ u, upds ρ (G i g u) = r) ∧ P i g) ⟨g0, ⟨V ρ, hρ⟩, h0⟩ (fun i x r hx hI => ?_) (fun r hI => ?_) hp hf
  · obtain ⟨g, ⟨u, rfl⟩, p⟩ := hI
    obtain ⟨is, r2, h1, h2⟩ := hs i x g u hx p
    refine ⟨is, r2, h1, ws_mono h2 fun o ho => ?_⟩
    cases o with
    | nx r => obtain ⟨g', e1, e2⟩ := ho; exact ⟨g', ⟨_, e1⟩, e2⟩
    | ct r => obtain ⟨g', e1, e2⟩ := ho; exact ⟨g', ⟨_, e1⟩, e2⟩
    | bk r => exact ho
    | rt v => exact ho
    | ro c => exact ho
    | rc v cs => exact ho
  · obtain ⟨g, ⟨u, rfl⟩, p⟩ := hI
    exact hd g u p
end
end DL
namespace DL
open PySem PySem.Spec PyProof.Rows L2
inductive Ln where
  | b (b : Blk)
  | d (v : BDev)
  | u (u : BUse)
def Ln.hd : Ln → Str
  | .b _ => "block"
  | .d _ => "device"
  | .u _ => "use"
/-- the words, as they stand in the program -/
def Ln.wd : Ln → List (Str ⊕ Int)
  | .b x => .inl "block" :: .inl x.n :: x.P.map .inl
  | .d x => [.inl "device", .inl x.k, .inl x.g, .inl x.e, .inl x.o, .inr x.w, .inr x.l]
  | .u x => .inl "use" :: .inl x.n :: x.N.map .inl
def Ln.ws : Ln → List Str
  | .b x => "block" :: x.n :: x.P
  | .d x => ["device", x.k, x.g, x.e, x.o, stI x.w, stI x.l]
  | .u x => "use" :: x.n :: x.N
structure BLs where
  D : List Blk
  c : Option Blk
def stL (s : BLs) : Ln → BLs
  | .b b => ⟨s.D ++ s.c.toList, some ⟨b.n, b.P, [], []⟩⟩
  | .d v => ⟨s.D, s.c.map fun c => ⟨c.n, c.P, c.V ++ [v], c.U⟩⟩
  | .u u => ⟨s.D, s.c.map fun c => ⟨c.n, c.P, c.V, c.U ++ [u]⟩⟩
def runL (ls : List Ln) : BLs := ls.foldl stL ⟨[], none⟩
/-- a device that may be written and read -/
def DvS (v : BDev) : Prop := (v.k ∈ (["n", "p"] : List Str) ∧ (∀ x ∈ v.ns, nameB x = true) ∧ 1 ≤ v.w ∧ 1 ≤ v.l) ∧ RdI v.w ∧ RdI v.l
structure TxS (bs : List Blk) : Prop where
  ok : SchOk bs
  bk : ∀ b ∈ bs, BkOk b
  w : ∀ b ∈ bs, ∀ v ∈ b.V, v.w < 10 ^ 30 ∧ v.l < 10 ^ 30
  few : bs.length ≤ 60
theorem TxS.dv {bs : List Blk} (t : TxS bs) {b : Blk} (hb : b ∈ bs) {v : BDev} (h : v ∈ b.V) : DvS v := by
  have h1 := (t.bk b hb).v v h
  have h2 := t.w b hb v h
  exact ⟨h1, ⟨by have := h1.2.2.1; omega⟩, ⟨by have := h1.2.2.2; omega⟩⟩
/-- what is asked of the next line -/
def LOk (s : BLs) : Ln → Prop
  | .b b => (∀ c ∈ s.c.toList, BkOk c ∧ c.n ∉ nmsB (libB s.D)) ∧ (s.D ++ s.c.toList).length < 60 ∧ b.n ∉ nmsB (libB (s.D ++ s.c.toList)) ∧ nameB b.n = true ∧ (∀ x ∈ b.P, nameB x = true) ∧ b.P.Nodup ∧ b.P.length ≤ 10
  | .d v => ∃ c, s.c = some c ∧ c.U = [] ∧ c.V.length < 10 ∧ DvS v
  | .u u => ∃ c, s.c = some c ∧ c.U.length < 10 ∧ u.n ∈ nmsB (libB s.D) ∧ (u.N.length : Int) = cntB ptB (libB s.D) u.n ∧ u.N.length ≤ 10 ∧ nameB u.n = true ∧ ∀ x ∈ u.N, nameB x = true
theorem TxS.take {bs : List Blk} (t : TxS bs) (k : Nat) : TxS (bs.take k) := by
  refine ⟨fun i b h => ?_, fun b h => t.bk b (List.mem_of_mem_take h), fun b h => t.w b (List.mem_of_mem_take h), by rw [List.length_take]; have := t.few; omega⟩
  have hi : i < k := by
    have := (List.getElem?_eq_some_iff.mp h).1
    rw [List.length_take] at this; omega
  rw [List.getElem?_take_of_lt hi] at h
  have := t.ok i b h
  rw [List.take_take, Nat.min_eq_left (Nat.le_of_lt hi)]
  exact this
def usO : Option Blk → List BUse
  | none => []
  | some c => c.U
theorem lit2_w : WOk "block" ∧ WOk "use" := by
  refine ⟨⟨?_, ?_, ?_⟩, ⟨?_, ?_, ?_⟩⟩ <;> decide +kernel
/-- what a line holds may be written -/
def WLn : Ln → Prop
  | .b b => nameB b.n = true ∧ (∀ x ∈ b.P, nameB x = true) ∧ b.P.length ≤ 10
  | .d v => DvS v
  | .u u => nameB u.n = true ∧ (∀ x ∈ u.N, nameB x = true) ∧ u.N.length ≤ 10
theorem LOk.w {s : BLs} {l : Ln} (h : LOk s l) : WLn l := by
  cases l with
  | b b => obtain ⟨_, _, _, h1, h2, _, h3⟩ := h; exact ⟨h1, h2, h3⟩
  | d v => obtain ⟨_, _, _, _, h1⟩ := h; exact h1
  | u u => obtain ⟨_, _, _, _, _, h1, h2, h3⟩ := h; exact ⟨h2, h3, h1⟩
theorem WLn.ok {l : Ln} (h : WLn l) : l.ws ≠ [] ∧ l.ws.length ≤ 12 ∧ ∀ w ∈ l.ws, WOk w := by
  cases l with
  | b b =>
    obtain ⟨h1, h2, h3⟩ := h
    refine ⟨by simp [Ln.ws], by simp only [Ln.ws, List.length_cons]; omega, fun w hw => ?_⟩
    have : w = "block" ∨ w = b.n ∨ w ∈ b.P := by simpa [Ln.ws] using hw
    rcases this with rfl | rfl | hw
    · exact lit2_w.1
    · exact name_w h1
    · exact name_w (h2 w hw)
  | d v =>
    obtain ⟨⟨h1, h2, _⟩, h3, h4⟩ := h
    refine ⟨by simp [Ln.ws], by simp [Ln.ws], fun w hw => ?_⟩
    have : w = "device" ∨ w = v.k ∨ w = v.g ∨ w = v.e ∨ w = v.o ∨ w = stI v.w ∨ w = stI v.l := by simpa [Ln.ws] using hw
    rcases this with rfl | rfl | rfl | rfl | rfl | rfl | rfl
    · exact lit_w.2.2.1
    · have : v.k = "n" ∨ v.k = "p" := by simpa using h1
      rcases this with e | e <;> rw [e]
      · exact lit_w.2.2.2.1
      · exact lit_w.2.2.2.2
    · exact name_w (h2 _ (by simp [BDev.ns]))
    · exact name_w (h2 _ (by simp [BDev.ns]))
    · exact name_w (h2 _ (by simp [BDev.ns]))
    · exact h3.w
    · exact h4.w
  | u u =>
    obtain ⟨h1, h2, h3⟩ := h
    refine ⟨by simp [Ln.ws], by simp only [Ln.ws, List.length_cons]; omega, fun w hw => ?_⟩
    have : w = "use" ∨ w = u.n ∨ w ∈ u.N := by simpa [Ln.ws] using hw
    rcases this with rfl | rfl | hw
    · exact lit2_w.2
    · exact name_w h1
    · exact name_w (h2 w hw)
theorem ln_len12 {ws : List Str} (h : ∀ w ∈ ws, WOk w) (hl : ws.length ≤ 12) : (lnW ws).length ≤ 504 := by
  have h0 := join_len " " ws
  have h1 := sumL_le (k := 41) (zs := ws) fun w hw => (h w hw).n
  have := lens.2.2.2.1
  rw [this] at h0
  unfold lnW
  have : 41 * ws.length ≤ 41 * 12 := Nat.mul_le_mul_left _ hl
  omega
theorem join_head (a x : Str) (r : List Str) : x.length ≤ (Str.join a (x :: r)).length := by
  cases r with
  | nil => exact Nat.le_refl _
  | cons y r => show x.length ≤ (x ++ a ++ Str.join a (y :: r)).length; rw [app_len, app_len]; omega
def l0 : Ln := .b bk0
theorem WLn.rd {l : Ln} (h : WLn l) : ∀ i, Sum.inr i ∈ l.wd → RdI i := fun i hi => by
  cases l with
  | b b => simp [Ln.wd] at hi
  | d v =>
    have : i = v.w ∨ i = v.l := by simpa [Ln.wd] using hi
    rcases this with rfl | rfl
    · exact h.2.1
    · exact h.2.2
  | u u => simp [Ln.wd] at hi
def mN (i : Int) : Str := ("m" : Str) ++ stI i
theorem mN_all : ∀ a b : Fin 60, mN (a.val : Int) = mN (b.val : Int) → a = b := by decide +kernel
theorem mN_ok : ∀ a : Fin 60, nameB (mN (a.val : Int)) = true := by decide +kernel
end DL
namespace DL
open PySem PySem.Spec PyProof.Rows L2
structure Rz (i : Int) : Prop where
  b : i.natAbs < 10 ^ 30
/-- the digits of a number -/
def dgI (i : Int) : Str := stI (i.natAbs : Int)
theorem Rz.rd {i : Int} (h : Rz i) : RdI (i.natAbs : Int) := ⟨by have := h.b; omega⟩
theorem Rz.sm {i : Int} (h : Rz i) : Sm i := ⟨by have := h.b; omega⟩
theorem stI_pos {i : Int} (h : 0 ≤ i) : stI i = dgI i := by unfold dgI; rw [show ((i.natAbs : Nat) : Int) = i by omega]
theorem stI_min {i : Int} (h : i < 0) : stI i = ("-" : Str) ++ dgI i := by
  have e : i = -((i.natAbs : Nat) : Int) := by omega
  unfold dgI
  conv => lhs; rw [e]
  exact stI_neg (by omega)
theorem minus_tl : ("-" : Str).cps.toList = [45] ∧ ("-" : Str).length = 1 := by decide +kernel
theorem stI_tl {i : Int} (h : i < 0) : (stI i).cps.toList = 45 :: (dgI i).cps.toList := by rw [stI_min h, cps_app, minus_tl.1]; rfl
theorem starts_yes (w : Str) : Txt.startswith (("-" : Str) ++ w) "-" = true := by
  unfold Txt.startswith
  rw [Bool.and_eq_true]
  refine ⟨decide_eq_true (by rw [app_len, minus_tl.2]; omega), ?_⟩
  change ((("-" : Str) ++ w).cps.extract 0 (0 + ("-" : Str).length) == ("-" : Str).cps) = true
  rw [beq_iff_eq, minus_tl.2]
  refine Array.ext' ?_
  rw [Array.toList_extract, cps_app, minus_tl.1]
  simp [List.extract_eq_drop_take]
theorem Rz.starts {i : Int} (h : Rz i) : Txt.startswith (stI i) "-" = decide (i < 0) := by
  rcases Int.lt_or_le i 0 with hi | hi
  · rw [stI_min hi, starts_yes, decide_eq_true hi]
  · rw [stI_pos hi, decide_eq_false (by omega)]; exact h.rd.starts
theorem Rz.int {i : Int} (h : Rz i) : PySem.intText? (stI i) = some i := by
  rcases Int.lt_or_le i 0 with hi | hi
  · have hl : (stI i).length ≤ 31 := by rw [stI_min hi, app_len, minus_tl.2]; have := h.rd.len; unfold dgI; omega
    have e := PySem.intText_neg (stI_tl hi) (by have := h.rd.tl; unfold dgI; rw [this]; exact TL.numL_digits _) (by unfold dgI; exact h.rd.ne) (by omega)
    rw [e]
    have h2 := h.rd.tl
    unfold dgI
    rw [h2, TL.numL_val]
    congr 1; omega
  · rw [stI_pos hi]
    have := h.rd.int
    unfold dgI
    rw [this]; congr 1; omega
theorem Rz.len {i : Int} (h : Rz i) : (stI i).length ≤ 31 := by
  rcases Int.lt_or_le i 0 with hi | hi
  · rw [stI_min hi, app_len, minus_tl.2]; have := h.rd.len; unfold dgI; omega
  · rw [stI_pos hi]; have := h.rd.len; unfold dgI; omega
theorem Rz.w {i : Int} (h : Rz i) : WOk (stI i) := by
  rcases Int.lt_or_le i 0 with hi | hi
  · have hw := h.rd.w
    have e := stI_tl hi
    refine ⟨fun m => ?_, fun m => ?_, by have := h.len; omega⟩
    · have m' : 32 ∈ (stI i).cps.toList := m
      rw [e] at m'
      rcases List.mem_cons.mp m' with z | z
      · cases z
      · exact hw.s z
    · have m' : 10 ∈ (stI i).cps.toList := m
      rw [e] at m'
      rcases List.mem_cons.mp m' with z | z
      · cases z
      · exact hw.l z
  · rw [stI_pos hi]; exact h.rd.w
/-- the word without its sign -/
theorem cut_min {i : Int} (h : i < 0) : cutS (stI i) (some 1) none = dgI i := by
  have e := stI_tl h
  have hl : (stI i).length = (dgI i).cps.toList.length + 1 := by
    have : (stI i).cps.toList.length = (dgI i).cps.toList.length + 1 := by rw [e]; rfl
    rwa [Array.length_toList] at this
  have e1 : HT.sIx (stI i).length 0 (some 1) = 1 := by
    unfold HT.sIx; simp only; rw [hl]; split <;> omega
  refine str_ext ?_
  unfold cutS
  rw [e1]
  show ((stI i).cps.toList.drop 1).take ((stI i).length - 1) = _
  rw [e]
  refine List.take_of_length_le ?_
  show (dgI i).cps.toList.length ≤ _
  omega
/-- a word that may be read -/
theorem Rz.head {i : Int} (h : Rz i) : (decide (stI i = ("0" : Str)) || !decide (sgn ((dgI i).cps.toList.getD 0 0) = ("0" : Str))) = true := by
  have hh := h.rd.head
  rcases Int.lt_or_le i 0 with hi | hi
  · have n0 : (dgI i) ≠ ("0" : Str) := fun e => by
      have e2 := congrArg (fun z : Str => z.cps.toList) e
      have e0 : ("0" : Str).cps.toList = [48] := by decide +kernel
      simp only [e0] at e2
      unfold dgI at e2
      rw [h.rd.tl] at e2
      have := num_first i.natAbs (by omega)
      rw [show ((i.natAbs : Int)).toNat = i.natAbs by omega] at e2
      rw [e2] at this
      exact this rfl
    have hh' : (decide (dgI i = ("0" : Str)) || !decide (sgn ((dgI i).cps.toList.getD 0 0) = ("0" : Str))) = true := hh
    rw [decide_eq_false n0, Bool.false_or] at hh'
    rw [hh', Bool.or_true]
  · rw [stI_pos hi]; exact hh
theorem Rz.dlen {i : Int} (h : Rz i) : (dgI i).length ≤ 30 := h.rd.len
end DL
namespace DL
open PySem PySem.Spec PyProof.Rows L2
def wnC (n : Str) : List Str := ["cell", n]
def wnS (s : Shp) : List Str := ["shape", s.1, stI s.2.a, stI s.2.b, stI s.2.c, stI s.2.d]
def wnL (v : Lab) : List Str := ["label", v.n, v.l, stI v.x, stI v.y]
def wnP (v : Pla) : List Str := ["place", v.n, stI v.t, stI v.dx, stI v.dy, stI v.c, stI v.r, stI v.sx, stI v.sy]
structure WnS (s : Shp) : Prop where
  ok : shB s = true
  a : Rz s.2.a
  b : Rz s.2.b
  c : Rz s.2.c
  d : Rz s.2.d
structure WnL (v : Lab) : Prop where
  ok : labB v = true
  x : Rz v.x
  y : Rz v.y
structure WnP (v : Pla) : Prop where
  ok : plaB v = true
  t : Rz v.t
  dx : Rz v.dx
  dy : Rz v.dy
  c : Rz v.c
  r : Rz v.r
  sx : Rz v.sx
  sy : Rz v.sy
theorem WnL.n {v : Lab} (h : WnL v) : nameB v.n = true := by have := h.ok; unfold labB at this; simp only [Bool.and_eq_true] at this; exact this.1
theorem WnP.n {v : Pla} (h : WnP v) : nameB v.n = true := by have := h.ok; unfold plaB at this; simp only [Bool.and_eq_true] at this; exact this.1
end DL
namespace DL
open PySem PySem.Spec PyProof.Rows L2
/-- what a line of a library says -/
inductive LPart where
  | c (n : Str)
  | s (v : Shp)
  | l (v : Lab)
  | p (v : Pla)
def LPart.wd : LPart → Str
  | .c _ => "cell"
  | .s _ => "shape"
  | .l _ => "label"
  | .p _ => "place"
def LPart.ws : LPart → List Str
  | .c n => wnC n
  | .s v => wnS v
  | .l v => wnL v
  | .p v => wnP v
def LPart.v : LPart → D
  | .c n => .str n
  | .s v => shE v
  | .l v => v.e
  | .p v => v.e
def LPart.Ok : LPart → Prop
  | .c n => nameB n = true
  | .s v => WnS v
  | .l v => WnL v
  | .p v => WnP v
def wcT : List (Str × D) := [("cell", .int 2), ("shape", .int 6), ("label", .int 5), ("place", .int 9)]
theorem kw_w : WOk ("cell" : Str) ∧ WOk ("shape" : Str) ∧ WOk ("label" : Str) ∧ WOk ("place" : Str) := by
  refine ⟨⟨?_, ?_, ?_⟩, ⟨?_, ?_, ?_⟩, ⟨?_, ?_, ?_⟩, ⟨?_, ?_, ?_⟩⟩ <;> decide +kernel
theorem lay_w {x : Str} (h : x ∈ layN) : WOk x := by
  simp only [layN, List.mem_cons, List.not_mem_nil, or_false] at h
  rcases h with rfl | rfl | rfl | rfl | rfl | rfl | rfl <;> exact ⟨by decide +kernel, by decide +kernel, by decide +kernel⟩
theorem labN_w {x : Str} (h : x ∈ labN) : WOk x := by
  simp only [labN, List.mem_cons, List.not_mem_nil, or_false] at h
  rcases h with rfl | rfl | rfl | rfl <;> exact ⟨by decide +kernel, by decide +kernel, by decide +kernel⟩
theorem LPart.wok : ∀ {x : LPart}, x.Ok → ∀ w ∈ x.ws, WOk w
  | .c n, h, w, hw => by
    simp only [LPart.ws, wnC, List.mem_cons, List.not_mem_nil, or_false] at hw
    rcases hw with rfl | rfl
    · exact kw_w.1
    · exact name_w h
  | .s v, h, w, hw => by
    have h : WnS v := h
    have hl : v.1 ∈ layN := by
      have := h.ok; unfold shB at this
      simp only [Bool.and_eq_true, decide_eq_true_eq] at this
      exact this.1
    simp only [LPart.ws, wnS, List.mem_cons, List.not_mem_nil, or_false] at hw
    rcases hw with rfl | rfl | rfl | rfl | rfl | rfl
    · exact kw_w.2.1
    · exact lay_w hl
    · exact h.a.w
    · exact h.b.w
    · exact h.c.w
    · exact h.d.w
  | .l v, h, w, hw => by
    have h : WnL v := h
    have hl : v.l ∈ labN := by
      have := h.ok; unfold labB at this
      simp only [Bool.and_eq_true, decide_eq_true_eq] at this
      exact this.2
    simp only [LPart.ws, wnL, List.mem_cons, List.not_mem_nil, or_false] at hw
    rcases hw with rfl | rfl | rfl | rfl | rfl
    · exact kw_w.2.2.1
    · exact name_w h.n
    · exact labN_w hl
    · exact h.x.w
    · exact h.y.w
  | .p v, h, w, hw => by
    have h : WnP v := h
    simp only [LPart.ws, wnP, List.mem_cons, List.not_mem_nil, or_false] at hw
    rcases hw with rfl | rfl | rfl | rfl | rfl | rfl | rfl | rfl | rfl
    · exact kw_w.2.2.2
    · exact name_w h.n
    · exact h.t.w
    · exact h.dx.w
    · exact h.dy.w
    · exact h.c.w
    · exact h.r.w
    · exact h.sx.w
    · exact h.sy.w
theorem LPart.ne {x : LPart} : x.ws ≠ [] := by cases x <;> simp [LPart.ws, wnC, wnS, wnL, wnP]
theorem LPart.few {x : LPart} : x.ws.length ≤ 9 := by cases x <;> simp [LPart.ws, wnC, wnS, wnL, wnP]
theorem LPart.len {x : LPart} (h : x.Ok) : (lnW x.ws).length ≤ 400 := by
  have h0 := join_len " " x.ws
  have h1 := sumL_le (k := 41) (zs := x.ws) fun w hw => (LPart.wok h w hw).n
  have hl := x.few
  have := lens.2.2.2.1
  rw [this] at h0
  unfold lnW
  have : 41 * x.ws.length ≤ 41 * 9 := Nat.mul_le_mul_left _ hl
  omega
theorem LPart.split {x : LPart} (h : x.Ok) : Txt.split (lnW x.ws) " " = x.ws := ln_split x.ne (LPart.wok h)
end DL
namespace DL
open PySem PySem.Spec PyProof.Rows L2
/-- alike but for a dict at a, that is locked in one -/
structure FzK (a : Addr) (t : List (Key × V)) (H H' : Hp) : Prop where
  at1 : Rd H a (.dK t)
  at2 : Rd H' a (.dK t)
  ne : ∀ b, b ≠ a → H' b = H b
theorem FzK.rd {a : Addr} {t : List (Key × V)} {H H' : Hp} (f : FzK a t H H') {b : Addr} {u : HO} (hu : ∀ o x, u ≠ .frz o x) (h : Rd H b u) : Rd H' b u := by
  by_cases e : b = a
  · subst e
    rw [Rd.uniq h f.at1 hu (fun _ _ z => by cases z)]
    exact f.at2
  · rcases h with h | ⟨o, h⟩
    · exact .inl (by rw [f.ne b e]; exact h)
    · exact .inr ⟨o, by rw [f.ne b e]; exact h⟩
end DL
namespace DL
open PySem PySem.Spec PyProof.Rows L2
def PrD (K : PySem.W.Frag) (H : Hp) : List (Key × D) → List (V × V) → Prop
  | [], ps => ps = []
  | (k, d) :: r, ps => ∃ v t, ps = (kV k, v) :: t ∧ DR K H d v ∧ PrD K H r t
theorem PrD.mono {K : PySem.W.Frag} {H H' : Hp} (s : Same H H') : ∀ {kds : List (Key × D)} {ps : List (V × V)}, PrD K H kds ps → PrD K H' kds ps
  | [], ps, h => h
  | (k, d) :: r, ps, h => by
    obtain ⟨v, t, rfl, h1, h2⟩ := h
    exact ⟨v, t, rfl, DR.mono s _ _ h1, PrD.mono s h2⟩
section
variable {X : Cx} {ρ : En} {pos : Pos}
theorem mergeK_fresh : ∀ (ks : List Key) (vs : List V) (js : List Key) (us : List V), js.length = us.length → ks.length = vs.length → (js ++ ks).Nodup → mergeK (js.zip us) (ks.zip vs) = (js ++ ks).zip (us ++ vs)
  | [], vs, js, us, _, hl, _ => by
    have : vs = [] := List.length_eq_zero_iff.mp hl.symm
    subst this
    rw [List.append_nil, List.append_nil]; rfl
  | k :: ks, [], js, us, _, hl, _ => by simp at hl
  | k :: ks, v :: vs, js, us, hj, hl, nd => by
    have nk : k ∉ js := fun m => (List.nodup_append.mp nd).2.2 k m k List.mem_cons_self rfl
    show mergeK (putK (js.zip us) k v) (ks.zip vs) = _
    rw [putK_zip hj nk, mergeK_fresh ks vs (js ++ [k]) (us ++ [v]) (by simp [hj]) (by simpa using hl) (by rw [List.append_assoc]; exact nd)]
    rw [List.append_assoc, List.append_assoc]; rfl
end
end DL
namespace DL
open PySem PySem.Spec PyProof.Rows L2
local instance (priority := 2000) keyBEq25 : BEq Key := instBEqOfDecidableEq
section
variable {X : Cx} {ρ : En} {pos : Pos}
/-- a dict of the module, its keys texts: what stands at one of them -/
structure KdL (K : PySem.W.Frag) (w : World) (mg : Str → Option Value) (x z : Str) (d : D) : Prop where
  ex : ∃ p v, mg x = some (.ref p) ∧ KDct K w p z v ∧ ∀ H, DR K H d v
structure KdT (K : PySem.W.Frag) (w : World) (mg : Str → Option Value) (x : Str) (kds : List (Str × D)) : Prop where
  get : ∀ q ∈ kds, KdL K w mg x q.1 q.2
theorem kdl_mk {K : PySem.W.Frag} {w : World} {mg : Str → Option Value} {x z : Str} {d : D} {p : Addr} {es : Array DictEntry} {n : Nat} {u : Value} (h : mg x = some (.ref p)) (l : K.lookup p = some ⟨.type "dict", none, .dict es n, #[]⟩) (q : PySem.W.KeysLit w.params es.toList) (v : PySem.W.nsIn K p z = some (some u)) (kd : KD K d u) : KdL K w mg x z d := by
  obtain ⟨y, r, hy⟩ := kd
  exact ⟨p, y, h, ⟨es, n, u, l, q, v, r⟩, hy⟩
theorem ed_kdict {x z : Str} {d : D} {e : Expr} {p2 : Pos} (h : KdL X.K X.w X.mg x z d) (hg : Gl X x) (he : ED X ρ e (.str z)) (hs : PlainIx e := by exact fun _ _ => rfl) (hd : (x == ("__debug__" : Str)) = false := by decide) : ED X ρ (.Subscript (.Name x p2) e pos) d := fun B0 B σ H0 H Q j k => by
  obtain ⟨p, v, h1, h2, h3⟩ := h.ex
  refine RE.of (pe_ix ix_kdict (pe_glob (v := .ref p) hg h1 rfl hd) pe_star hs) ?_
  refine he B0 B σ H0 H _ j fun u G0 G g r => ?_
  exact ⟨p, z, v, rfl, r, h2, k v G0 G g (h3 G0)⟩
end
end DL
namespace DL
open PySem PySem.Spec PyProof.Rows L2
/-- a def at an address -/
structure FnA (P : Program) (w : World) (K : PySem.W.Frag) (mg : Str → Option Value) (base : Heap) (f : Addr) (k : Nat) (R : List D → D → Prop) : Prop where
  ex : ∃ fd ps, FnOk P w K mg base CX0 k f fd ps (spR K R) ∧ PySem.W.keepIn K (.ref f) = true ∧ Binds K fd ps []
theorem kd_ad {K : PySem.W.Frag} {f : Addr} : KD K (.ad f) (.ref f) := ⟨.ref f, rfl, fun _ => rfl⟩
/-- the dict x of the module has the key z -/
structure KdI (K : PySem.W.Frag) (w : World) (mg : Str → Option Value) (x z : Str) : Prop where
  ex : ∃ p es n u, mg x = some (.ref p) ∧ KDict K w p es n ∧ PySem.W.nsIn K p z = some (some u)
theorem kdi_mk {K : PySem.W.Frag} {w : World} {mg : Str → Option Value} {x z : Str} {p : Addr} {es : Array DictEntry} {n : Nat} {u : Value} (h : mg x = some (.ref p)) (l : K.lookup p = some ⟨.type "dict", none, .dict es n, #[]⟩) (q : PySem.W.KeysLit w.params es.toList) (v : PySem.W.nsIn K p z = some (some u)) (lo : (p == sysModules) = false) : KdI K w mg x z := ⟨p, es, n, u, h, ⟨l, q, lo⟩, v⟩
section
variable {X : Cx} {ρ : En} {d : D}
theorem td_notInKd {x z : Str} {e : Expr} {p2 pos : Pos} (h : KdI X.K X.w X.mg x z) (hg : Gl X x) (he : ED X ρ e (.str z)) (hm : behindInMarks .NotIn (.Name x p2) = false := by first | exact nomark _ | rfl) (hd : (x == ("__debug__" : Str)) = false := by decide) : TD X ρ (.Compare e [.NotIn] [.Name x p2] pos) false := fun B0 B σ H0 H Q j kk => by
  obtain ⟨p, es, n, u, h1, h2, h3⟩ := h
  refine RT.of (pt_cmpR (op_notIn_kd h2) pe_star (pe_glob (v := .ref p) hg h1 rfl hd) hm) (he B0 B σ H0 H _ j fun y G0 G g1 r1 => ?_)
  cases (show y = .str z from r1)
  exact ⟨z, some u, rfl, rfl, h3, false, rfl, kk G0 G g1⟩
theorem ed_callL {f : Addr} (i : Nat) {x : Str} {k : Nat} {R : List D → D → Prop} {e : Expr} {es : List Expr} {ds : List D} {pos p : Pos} (hρ : ρ[i]? = some (.sh (.ad f))) (G : FnA X.prog X.w X.K X.mg X.base f k R) (hr : Room k X.A) (ha : AD X ρ (e :: es) ds) (hR : R ds d) (hN : X.N[i]? = some x := by rfl)
    (hv : Vis X.env.scope x := by first | exact Or.inl rfl | exact Or.inr (Or.inl rfl) | exact Or.inr (Or.inr rfl)) (hdb : (x == ("__debug__" : Str)) = false := by decide) (hcd : (x == ("__classdict__" : Str)) = false := by decide)
    (he : starEach (e :: es) X.env = (false, eval e X.env) :: starEach es X.env := by rfl) (hpl : (backTo pos (starEach es X.env)).any (·.1) = false := by rfl) : ED X ρ (.Call (.Name x p) (e :: es) [] pos) d := fun B0 B σ H0 H Q j kk => by
  obtain ⟨fd, ps, F, hk, hb⟩ := G.ex
  obtain ⟨ov, h1, v, rfl, h2⟩ := j.get hρ
  have h2 : v = .ref f := h2
  subst h2
  refine RE.of (pe_callL (E := E0) (i := i) F hr hN hv hk hb .nil pass0 pa_star hdb hcd he hpl) ⟨h1, ?_⟩
  refine ha B0 B σ H0 H _ j fun vs G0 G g r => ?_
  rw [List.append_nil]
  exact ⟨G0, ds, d, g.sh, r, hR, fun v L0 L g2 r2 => kk v L0 L (g.trans g2) r2⟩
end
end DL
namespace DL
open PySem PySem.Spec PyProof.Rows L2
/-- the dict x of the module gives for the text z the def g of the module -/
structure KdR (K : PySem.W.Frag) (w : World) (mg : Str → Option Value) (x z g : Str) : Prop where
  ex : ∃ f, mg g = some (.ref f) ∧ KdL K w mg x z (.ad f)
  has : KdI K w mg x z
structure KdF (K : PySem.W.Frag) (w : World) (mg : Str → Option Value) (x : Str) (zs : List (Str × Str)) : Prop where
  get : ∀ q ∈ zs, KdR K w mg x q.1 q.2
theorem KdR.fn {P : Program} {w : World} {K : PySem.W.Frag} {mg : Str → Option Value} {base : Heap} {x z g : Str} {k : Nat} {R : List D → D → Prop} (h : KdR K w mg x z g) (G : Fn P w K mg base g k R) : ∃ f, KdL K w mg x z (.ad f) ∧ FnA P w K mg base f k R := by
  obtain ⟨f, h1, h2⟩ := h.ex
  obtain ⟨f', fd, ps, F, hm, hk, hb⟩ := G.ex
  have e := h1.symm.trans hm
  cases e
  exact ⟨f, h2, fd, ps, F, hk, hb⟩
theorem kdr_mk {K : PySem.W.Frag} {w : World} {mg : Str → Option Value} {x z g : Str} {p f : Addr} {es : Array DictEntry} {n : Nat} (h : mg x = some (.ref p)) (l : K.lookup p = some ⟨.type "dict", none, .dict es n, #[]⟩) (q : PySem.W.KeysLit w.params es.toList) (v : PySem.W.nsIn K p z = some (some (.ref f))) (hg : mg g = some (.ref f)) (lo : (p == sysModules) = false) : KdR K w mg x z g :=
  ⟨⟨f, hg, kdl_mk h l q v kd_ad⟩, kdi_mk h l q v lo⟩
end DL
namespace DL
open PySem PySem.Spec PyProof.Rows L2
section
variable {X : Cx} {ρ : En}
theorem ec_disp3 {x1 x2 x3 : Str} {e1 e2 e3 ea eb ec : Expr} {ca cb cc : OC} {pos : Pos} (h1 : ED X ρ e1 (.str x1)) (h2 : ED X ρ e2 (.str x2)) (h3 : ED X ρ e3 (.str x3)) (ha : EO X ρ ea ca) (hb : EO X ρ eb cb) (hc : EO X ρ ec cc) (nd : [x1, x2, x3].Nodup := by decide) :
    EC X ρ (.Dict [some e1, some e2, some e3] [ea, eb, ec] pos) (fun p cs => ∃ a b c, cs = [(p, .dk [.inr x1, .inr x2, .inr x3] [.ad a, .ad b, .ad c]), (a, ca), (b, cb), (c, cc)]) := fun B0 B σ H0 H Q j k => by
  refine RE.of (pe_disp (pps_cons pe_star pe_star (pps_cons pe_star pe_star (pps_cons pe_star pe_star pps_nil))) rfl rfl (by simp) (by simp)) fun p hp => ?_
  have g0 : JH H0 H H0 (upd H p (.dK [])) := JH.own j.same hp
  have p0 : H0 p = none := j.same.free hp
  have j0 := j.grow g0
  refine h1 B0 B σ H0 _ _ j0 fun u1 A0 A1 f1 q1 => ha B0 B σ A0 A1 _ (j0.grow f1) fun a oa G0 G g a1 a2 a3 a4 => ?_
  have jG := (j0.grow f1).grow g
  refine h2 B0 B σ G0 G _ jG fun u2 C0 C1 f2 q2 => hb B0 B σ C0 C1 _ (jG.grow f2) fun b ob L0 L g2 b1 b2 b3 b4 => ?_
  have jL := (jG.grow f2).grow g2
  refine h3 B0 B σ L0 L _ jL fun u3 D0 D1 f3 q3 => hc B0 B σ D0 D1 _ (jL.grow f3) fun c oc M0 M g3 c1 c2 c3 c4 => ?_
  cases (show u1 = .str x1 from q1)
  cases (show u2 = .str x2 from q2)
  cases (show u3 = .str x3 from q3)
  have gA : JH H0 (upd H p (.dK [])) G0 G := f1.trans g
  have gB : JH G0 G L0 L := f2.trans g2
  have gC : JH L0 L M0 M := f3.trans g3
  have gM : JH H0 (upd H p (.dK [])) M0 M := (gA.trans gB).trans gC
  have Mp : M p = some (.dK []) := gM.sB _ _ upd_same
  have M0p : M0 p = none := gM.fr p _ upd_same trivial p0
  have La : L a = some oa := gB.sB _ _ a1
  have L0a : L0 a = none := gB.fr _ _ a1 (OCR.nt a4) a2
  have Ma : M a = some oa := gC.sB _ _ La
  have M0a : M0 a = none := gC.fr _ _ La (OCR.nt a4) L0a
  have Mb : M b = some ob := gC.sB _ _ b1
  have M0b : M0 b = none := gC.fr _ _ b1 (OCR.nt b4) b2
  have Ap : A1 p = some (.dK []) := f1.sB _ _ upd_same
  have Cp : C1 p = some (.dK []) := f2.sB _ _ (g.sB _ _ Ap)
  have Dp : D1 p = some (.dK []) := f3.sB _ _ (g2.sB _ _ Cp)
  have ap : a ≠ p := fun z => by subst z; rw [Ap] at a3; cases a3
  have bp : b ≠ p := fun z => by subst z; rw [Cp] at b3; cases b3
  have cp : c ≠ p := fun z => by subst z; rw [Dp] at c3; cases c3
  have hab : a ≠ b := fun z => by subst z; have := f2.sB _ _ a1; rw [b3] at this; cases this
  have hac : a ≠ c := fun z => by subst z; have := f3.sB _ _ La; rw [c3] at this; cases this
  have hbc : b ≠ c := fun z => by subst z; have := f3.sB _ _ b1; rw [c3] at this; cases this
  have Ha : H a = none := by
    have : (upd H p (.dK [])) a = none := f1.sB.free a3
    rwa [upd_ne ap] at this
  have Hb : H b = none := by
    have : (upd H p (.dK [])) b = none := (gA.sB.trans f2.sB).free b3
    rwa [upd_ne bp] at this
  have Hc : H c = none := by
    have : (upd H p (.dK [])) c = none := ((gA.sB.trans gB.sB).trans f3.sB).free c3
    rwa [upd_ne cp] at this
  have nk : ([.inr x1, .inr x2, .inr x3] : List Key).Nodup := by
    have : ([x1, x2, x3].map (Sum.inr : Str → Key)).Nodup := List.Pairwise.map _ (fun u v n e => n (Sum.inr.inj e)) nd
    exact this
  have em := mergeK_fresh ([.inr x1, .inr x2, .inr x3] : List Key) [.ref a, .ref b, .ref c] [] [] rfl rfl (by simpa using nk)
  refine ⟨Mp, ([.inr x1, .inr x2, .inr x3] : List Key).zip [.ref a, .ref b, .ref c], rfl, by simp, ?_⟩
  have em' : mergeK [] (([.inr x1, .inr x2, .inr x3] : List Key).zip [V.ref a, V.ref b, V.ref c]) = ([.inr x1, .inr x2, .inr x3] : List Key).zip [V.ref a, V.ref b, V.ref c] := em
  rw [em']
  have gg : JH H0 H M0 (upd M p (.dK (([.inr x1, .inr x2, .inr x3] : List Key).zip [V.ref a, V.ref b, V.ref c]))) := by
    refine ⟨gM.s0, fun b u e => upd_keep (gM.sh b u e) (fun z => by subst z; rw [M0p] at e; cases e), fun b u e => upd_keep (gM.sB b u (upd_keep e (ne_of_none e hp))) (ne_of_none e hp), fun b u e nt e' => gM.fr b u (upd_keep e (ne_of_none e hp)) nt e'⟩
  refine k p _ M0 _ ⟨a, b, c, rfl⟩ gg (fun z hz => ?_) (by simp [hab, hac, hbc, ap, bp, cp, Ne.symm ap, Ne.symm bp, Ne.symm cp])
  simp only [List.mem_cons, List.not_mem_nil, or_false] at hz
  rcases hz with rfl | rfl | rfl | rfl
  · exact ⟨_, upd_same, M0p, hp, [.ref a, .ref b, .ref c], rfl, rfl, .ref a, _, rfl, rfl, .ref b, _, rfl, rfl, .ref c, _, rfl, rfl, rfl⟩
  · exact ⟨oa, by rw [upd_ne ap]; exact Ma, M0a, Ha, OCR.mono (gB.s0.trans gC.s0) a4⟩
  · exact ⟨ob, by rw [upd_ne bp]; exact Mb, M0b, Hb, OCR.mono gC.s0 b4⟩
  · exact ⟨oc, by rw [upd_ne cp]; exact c1, c2, Hc, c4⟩
end
end DL
namespace DL
open PySem PySem.Spec PyProof.Rows L2
theorem J.mores {K : PySem.W.Frag} {B0 B H0 H H0' H' : Hp} {σ : L2.St} {ρ : En} (j : J K B0 B σ H0 H ρ) (g : JH H0 H H0' H') {i : Nat} {cs cs2 : Cs} {d : D} (h : ρ[i]? = some (.ox cs d)) (hc : ∀ p ∈ cs2, CellR K H H0' H' p.1 p.2) (nd : (pl cs2).Nodup) : J K B0 B σ H0' H' (ρ.set i (.ox (cs ++ cs2) d)) := by
  obtain ⟨ov, e1, f1, f2, f3⟩ := (j.grow g).get h
  have nin : ∀ a ∈ pl cs2, ∀ k s' ov', ρ[k]? = some s' → σ[k]? = some ov' → ¬ Owns s' ov' a := fun a ha k s' ov' h1 h2 w => by
    obtain ⟨p, hp, rfl⟩ := List.mem_map.mp ha
    obtain ⟨_, _, _, q3, _⟩ := (hc p hp).ex
    obtain ⟨o, e, _⟩ := j.own h1 h2 w
    rw [q3] at e; cases e
  refine (j.grow g).setSl (s := .ox (cs ++ cs2) d) e1 ⟨f1, fun p hp => ?_, ?_⟩ fun b w k s' ov' ne g1 g2 w2 => ?_
  · rcases List.mem_append.mp hp with hp | hp
    · exact f2 p hp
    · obtain ⟨o, q1, q2, q3, q4⟩ := (hc p hp).ex
      exact ⟨o, q1, q2, j.hp.sB.free q3, q4⟩
  · rw [List.map_append, List.nodup_append]
    refine ⟨f3, nd, fun x hx y hy e => ?_⟩
    subst e
    exact nin _ hy i _ ov h e1 hx
  · have w' : b ∈ cs.map (·.1) ∨ b ∈ pl cs2 := by
      have w0 : b ∈ (cs ++ cs2).map (·.1) := w
      rw [List.map_append, List.mem_append] at w0
      exact w0
    rcases w' with w' | w'
    · exact (j.grow g).sub h e1 (fun a q => q) b w' k s' ov' ne g1 g2 w2
    · exact nin b w' k s' ov' g1 g2 w2
section
variable {X : Cx} {ρ : En} {cn f : Str} {fs ns : List Str} {ds : List D} {pos : Pos}
/-- a field of an instance with cells is written again: a new own thing with cells of its own -/
theorem ws_setFECU (s m : Nat) {a : Addr} {x : Str} {p pos' : Pos} {value : Expr} {cs : Cs} {Ψ : Addr → Cs → Prop} {Φ : Out → Prop} (kl : Kl X.K X.mg cn fs) (hρ : ρ[s]? = some (.ox ((a, .ins cn ns ds) :: cs) (.ad a))) (hv : EC X ρ value Ψ) (hΦ : ∀ q cs2, Ψ q cs2 → Φ (.nx (ρ.set s (.ox ((a, .ins cn ns (ds.set m (.ad q))) :: (cs ++ cs2)) (.ad a)))))
    (hold : ns[m]? = some f := by rfl) (hu : (ns.take m).contains f = false := by decide +kernel) (hf : f ∈ fs := by decide +kernel) (hlt : ns.length < 1000 := by decide)
    (hN : X.N[s]? = some x := by rfl) (hvis : Vis X.env.scope x := by first | exact Or.inl rfl | exact Or.inr (Or.inl rfl) | exact Or.inr (Or.inr rfl)) (hdb : (x == ("__debug__" : Str)) = false := by decide) (hcd : (x == ("__classdict__" : Str)) = false := by decide)
    (hs : swapsWith value (some (.Attribute (.Name x p) f pos')) pos.line X.env = pure false := by rfl) : WS X (.Assign [.Attribute (.Name x p) f pos'] value pos) ρ Φ := fun B0 B σ H0 H Dn j k => by
  refine ⟨_, ps_fld (pe_var hN hvis hdb hcd) pe_star hs, hv B0 B σ H0 H _ j fun q cs2 G0 G w g hc hnd => ?_⟩
  have j1 := j.mores g hρ hc hnd
  have hlt' : s < ρ.length := (List.getElem?_eq_some_iff.mp hρ).1
  obtain ⟨ov, e1, ⟨v1, rfl, rv⟩, hcs, nd⟩ := j1.get (i := s) (s := .ox ((a, .ins cn ns ds) :: (cs ++ cs2)) (.ad a)) (by rw [List.getElem?_set_self hlt']; rfl)
  cases (show v1 = .ref a from rv)
  obtain ⟨o, h1, h2, h3, vs, C, dx, rfl, hC, hlen, hvs⟩ := (hcs _ (List.mem_cons_self ..)).ex
  obtain ⟨C', hC', hm, hc', hk, hna⟩ := kl.ex
  rw [hC] at hC'; cases hC'
  have hl : (ns.zip vs).length < 1000 := by rw [List.length_zip]; omega
  refine ⟨_, e1, a, C, dx, _, rfl, h1, hc'.cl, hna f hf, hl, ?_⟩
  rw [putF_old hold hu hlen]
  have j2 := j1.put (i := s) (cs := (a, .ins cn ns ds) :: (cs ++ cs2)) (d := .ad a) (c' := .ins cn ns (ds.set m (.ad q))) (o := .ins C dx (ns.zip (vs.set m (.ref q)))) (by rw [List.getElem?_set_self hlt']; rfl) (List.mem_cons_self ..) ⟨vs.set m (.ref q), C, dx, rfl, hC, by simp [hlen], DRs.set (d := .ad q) (v := V.ref q) rfl m hvs⟩
  rw [putC_hd nd, List.set_set] at j2
  exact k _ (hΦ q cs2 w) _ _ _ j2
end
end DL
namespace DL
open PySem PySem.Spec PyProof.Rows L2
section
variable {X : Cx} {ρ : En} {o e : Expr} {d : D} {pos : Pos}
/-- d[k], d a dict at a told place -/
theorem ed_dixI (i : Nat) {p : Addr} {cs : Cs} {d0 : D} {ks : List Key} {ds : List D} {k0 : Key} (hu : X.A.units + 64 < cLine) (hi : ρ[i]? = some (.ox cs d0)) (hm : (p, OC.dk ks ds) ∈ cs) (ho : ED X ρ o (.ad p)) (he : ED X ρ e (kD k0)) (h : lookK ks ds k0 = some d) (hs : NoSl e := by exact fun _ _ => rfl) : ED X ρ (.Subscript o e pos) d := fun B0 B σ H0 H Q j kk => by
  refine RE.of (pe_dget (by omega) pe_star pe_star hs) (ho B0 B σ H0 H _ j fun x G0 G g r => ?_)
  refine he B0 B σ G0 G _ (j.grow g) fun y L0 L g2 r2 => ?_
  cases (show x = .ref p from r)
  obtain ⟨o1, h1, h2, h3, vs, rfl, h4, h5⟩ := ((j.grow g).grow g2).cell hi hm
  rw [kD_val r2]
  obtain ⟨v, e1, e2⟩ := lookK_val h5 h
  exact ⟨p, v, rfl, .inl ⟨_, k0, .inl h1, rfl, e1.symm⟩, kk v L0 L (g.trans g2) e2⟩
end
end DL
namespace DL
open PySem PySem.Spec PyProof.Rows L2
section
variable {X : Cx} {ρ : En} {e : Expr}
/-- eo_showI, and a second slot that names one of the cells is shown too -/
theorem eo_showI2 (i m : Nat) (d' d2' : D) {d0 d2 : D} {cs : Cs} {cn : Str} {ns : List Str} {zs : List D} (hi : ρ[i]? = some (.ox cs d0)) (hm : ρ[m]? = some (.sh d2)) (him : i ≠ m) (hd : ∀ (K : PySem.W.Frag) (H : Hp) v, (∀ p ∈ cs, DR K H p.2.d (.ref p.1)) → DR K H d0 v → DR K H d' v)
    (hd2 : ∀ (K : PySem.W.Frag) (H : Hp) v, (∀ p ∈ cs, DR K H p.2.d (.ref p.1)) → DR K H d2 v → DR K H d2' v) (hz : noTs zs = true) (h : EO X ((ρ.set i (.sh d')).set m (.sh d2')) e (.ins cn ns zs)) : EO X ρ e (.ins cn ns zs) := fun B0 B σ H0 H Q j kk => by
  obtain ⟨H1, j1, s1, r1, n1, z1, o1⟩ := shareAllC j hi
  have hl : i < σ.length := by rw [j.len]; exact (List.getElem?_eq_some_iff.mp hi).1
  obtain ⟨ov, e1, v, e2, r2⟩ := j1.get (i := i) (s := .sh d0) (by rw [List.getElem?_set_self (by rw [← j.len]; exact hl)])
  have j2 := j1.setSl (i := i) (s := .sh d') e1 ⟨v, e2, hd _ _ v r1 r2⟩ fun a w => w.elim
  rw [List.set_set] at j2
  obtain ⟨ov2, f1, v2, f2, q2⟩ := j2.get (i := m) (s := .sh d2) (by rw [List.getElem?_set_ne him]; exact hm)
  have j3 := j2.setSl (i := m) (s := .sh d2') f1 ⟨v2, f2, hd2 _ _ v2 r1 q2⟩ fun a w => w.elim
  refine h B0 B σ H1 H Q j3 fun a o G0 G g w1 w2 w3 w4 => kk a o (ers G0 (pl cs)) G (g.unshow s1 n1 z1) w1 ?_ w3 ?_
  · by_cases m : a ∈ pl cs
    · exact ers_in m
    · rw [ers_out m]; exact w2
  · obtain ⟨vs, C, dx, rfl, hC, hlen, r⟩ := w4
    refine ⟨vs, C, dx, rfl, hC, hlen, ers_drs (fun b hb xs => ?_) zs vs hz r⟩
    obtain ⟨p, hp, rfl⟩ := List.mem_map.mp hb
    obtain ⟨o2, H2, q1, q2⟩ := o1 p hp
    exact ocr_tup q2 (g.s0 _ _ q1) xs
end
end DL
namespace DL
open PySem PySem.Spec PyProof.Rows L2
def drN : List Str := ["_completed", "_name", "_parts", "_last_word"]
/-- a cell that is being read: what stood in its lines so far, and the word of the last one -/
structure DCel where
  n : Str
  S : List Shp
  L : List Lab
  P : List Pla
  w : Str
def keyD (Z : List Rw) : List Key := Z.map fun r => .inr r.n
/-- no cell begun -/
def drC0 (a p q : Addr) : Cs := [(a, .ins "Draft" drN [.ad p, .non, .ad q, .non]), (p, .dk [] []), (q, .dk [] [])]
end DL
namespace DL
open PySem PySem.Spec PyProof.Rows L2
def nmD : Option DCel → D
  | none => .non
  | some c => .str c.n
def lwD : Option DCel → D
  | none => .non
  | some c => .str c.w
def ptD (b1 b2 b3 : Addr) (c : DCel) : Cs := [(b1, .lst (c.S.map shE)), (b2, .lst (c.L.map Lab.e)), (b3, .lst (c.P.map Pla.e))]
def tlD (q b1 b2 b3 : Addr) : Option DCel → Cs
  | none => [(q, .dk [] [])]
  | some c => (q, .dk [.inr "shape", .inr "label", .inr "place"] [.ad b1, .ad b2, .ad b3]) :: ptD b1 b2 b3 c
def cvD (Z : List Rw) : List D := Z.map fun r => celD r.n r.S r.L r.P
def drX (a p q b1 b2 b3 : Addr) (Z : List Rw) (c : Option DCel) : Cs := (a, .ins "Draft" drN [.ad p, nmD c, .ad q, lwD c]) :: (p, .dk (keyD Z) (cvD Z)) :: tlD q b1 b2 b3 c
def DCel.rw (c : DCel) : Rw := ⟨c.n, c.S, c.L, c.P⟩
theorem nmD_some {c : Option DCel} (h : (!isNon (nmD c)) = true) : ∃ x, c = some x := by
  cases c with
  | none => simp [nmD, isNon] at h
  | some x => exact ⟨x, rfl⟩
theorem nmD_none {c : Option DCel} (h : (!isNon (nmD c)) = false) : c = none := by
  cases c with
  | none => rfl
  | some x => simp [nmD, isNon] at h
theorem dr_show {K : PySem.W.Frag} {H : Hp} {a : Addr} {zs : List D} {cs : Cs} (v : V) (h : ∀ x ∈ (((a, .ins "Draft" drN zs) :: cs) : Cs), DR K H x.2.d (.ref x.1)) (w : DR K H (.ad a) v) : DR K H (.obj "Draft" drN zs) v := by
  cases (show v = .ref a from w)
  exact h (a, .ins "Draft" drN zs) (by simp)
theorem dr_parts {K : PySem.W.Frag} {H : Hp} {q b1 b2 b3 : Addr} {c1 c2 : Addr × OC} {ks : List Key} {d1 d2 d3 : List D} (v : V) (h : ∀ x ∈ ([c1, c2, (q, .dk ks [.ad b1, .ad b2, .ad b3]), (b1, .lst d1), (b2, .lst d2), (b3, .lst d3)] : Cs), DR K H x.2.d (.ref x.1)) (w : DR K H (.ad q) v) : DR K H (.dk ks [.lst d1, .lst d2, .lst d3]) v := by
  cases (show v = .ref q from w)
  obtain ⟨a, vs, e, h1, h2, h3⟩ := h (q, .dk ks [.ad b1, .ad b2, .ad b3]) (by simp)
  obtain ⟨u1, r1, rfl, e1, u2, r2, rfl, e2, u3, r3, rfl, e3, rfl⟩ := h3
  cases (show u1 = .ref b1 from e1)
  cases (show u2 = .ref b2 from e2)
  cases (show u3 = .ref b3 from e3)
  exact ⟨a, _, e, h1, h2, _, _, rfl, h (b1, .lst d1) (by simp), _, _, rfl, h (b2, .lst d2) (by simp), _, _, rfl, h (b3, .lst d3) (by simp), rfl⟩
theorem cel_noT (n : Str) (S : List Shp) (L : List Lab) (P : List Pla) : noTs (celV n S L P) = true := by
  show (true && (noTs (S.map shE) && (noTs (L.map Lab.e) && (noTs (P.map Pla.e) && true)))) = true
  rw [noTs_map (fun _ => rfl), noTs_map (fun _ => rfl), noTs_map (fun _ => rfl)]; rfl
end DL
namespace DL
open PySem PySem.Spec PyProof.Rows L2
structure DCel.Ok (Z : List Rw) (x : DCel) : Prop where
  ok : CelOk x.n x.S x.L x.P
  new : (.inr x.n : Key) ∉ keyD Z
  n : x.n.length ≤ sizeLine
  s1 : x.S.length ≤ 1000
  s2 : x.L.length ≤ 1000
  s3 : x.P.length ≤ 1000
  t2 : ∀ v ∈ x.L, v.n.length ≤ sizeLine
  t3 : ∀ v ∈ x.P, v.n.length ≤ sizeLine
end DL
namespace DL
open PySem PySem.Spec PyProof.Rows L2
theorem strs_are : ∀ {ys : List Str} {its : List Value}, Vals (ys.map V.str) its → StrsAre its ys
  | [], _, .nil => .nil
  | y :: ys, _, .cons r t => by
    obtain ⟨k, rfl⟩ := r
    exact .cons y k (strs_are t)
/-- a tuple of texts that the module holds -/
structure KtS (K : PySem.W.Frag) (mg : Str → Option Value) (x : Str) (zs : List Str) : Prop where
  ex : ∃ p o its n, mg x = some (.ref p) ∧ K.lookup p = some o ∧ o.cls = .type "tuple" ∧ o.dict = none ∧ o.data = .seq its n ∧ its.size ≤ sizeLine ∧ Vals (zs.map V.str) its.toList
theorem vs_nil : Vals (([] : List Str).map V.str) [] := .nil
theorem vs_cons {z : Str} {zs : List Str} {t : Tok} {us : List Value} (r : Vals (zs.map V.str) us) : Vals ((z :: zs).map V.str) (.str z t :: us) := .cons ⟨t, rfl⟩ r
theorem kts_mk {K : PySem.W.Frag} {mg : Str → Option Value} {x : Str} {zs : List Str} {p : Addr} {its : Array Value} {n : Nat} {sl : Array (Option Value)} (h : mg x = some (.ref p)) (l : K.lookup p = some ⟨.type "tuple", none, .seq its n, sl⟩) (z : its.size ≤ sizeLine) (r : Vals (zs.map V.str) its.toList) : KtS K mg x zs :=
  ⟨p, _, its, n, h, l, rfl, rfl, rfl, z, r⟩
def rTIndex (K : PySem.W.Frag) : V → List V → Hp → VK → Prop := fun x xs H Q => ∃ (a : Addr) (zs : List Str) (k : Str), x = .ref a ∧ xs = [.str k] ∧ SqT K H a (zs.map V.str) ∧ k ∈ zs ∧ Q (.int (zs.idxOf k : Nat)) H
section
variable {X : Cx} {ρ : En} {pos : Pos}
theorem mt_tindex : MtR X "tuple.index" (rTIndex X.K) := by
  intro pins s σ H x xs v us Q I rx rxs h
  obtain ⟨a, zs, k, rfl, rfl, hs, hk, q⟩ := h
  cases rx
  cases rxs with
  | cons ry rt =>
    rename_i uy ut
    cases rt
    obtain ⟨t, rfl⟩ := ry
    obtain ⟨its, rv, ⟨o, ho, hc, n, hd⟩, hlen⟩ := I.tuple hs
    exact SeqAt.tuple_index_strs ⟨o, ho, hc, n, hd⟩ (strs_are rv) hk ⟨.int (zs.idxOf k : Nat), H, I.tok _, ⟨_, rfl⟩, q⟩
theorem ed_tindex {x : Str} {zs : List Str} {k : Str} {e : Expr} {apos p : Pos} (kt : KtS X.K X.mg x zs) (hg : Gl X x) (he : ED X ρ e (.str k)) (hm : k ∈ zs) (hd : (x == ("__debug__" : Str)) = false := by decide)
    (hpe : ∀ {to : TE} {ta : TA}, PE X (.Name x p) to → PA X [e] ta → PE X (.Call (.Attribute (.Name x p) "index" apos) [e] [] pos) (tBM X.K "tuple" (rTIndex X.K) to ta) := by exact fun h h2 => pe_bm PySem.F.plainAttrs_tuple PySem.F.slot_tuple_index PySem.F.type_tuple_index mt_tindex h h2)
    (hs : starEach [e] X.env = (false, eval e X.env) :: starEach [] X.env := by rfl) :
    ED X ρ (.Call (.Attribute (.Name x p) "index" apos) [e] [] pos) (.int (zs.idxOf k : Nat)) := fun B0 B σ H0 H Q j kk => by
  obtain ⟨a, o, its, n, h1, h2, h3, h4, h5, h6, h7⟩ := kt.ex
  refine RE.of (hpe (pe_glob (v := .ref a) hg h1 rfl hd) (pa_cons pe_star pa_nil hs)) ?_
  refine ⟨Or.inr (Or.inl ⟨rfl, o, h2, h3, h4⟩), he B0 B σ H0 H _ j fun y L0 L g2 r2 => ?_⟩
  cases (show y = .str k from r2)
  exact ⟨a, zs, k, rfl, rfl, .inr ⟨o, its, n, h2, h3, h5, h6, h7⟩, hm, kk _ L0 L g2 rfl⟩
end
end DL
namespace DL
open PySem PySem.Spec PyProof.Rows L2
section
variable {X : Cx} {ρ : En} {Φ : Out → Prop} {a b : Expr} {pos : Pos} {rest : List Stmt}
theorem tp_or2 {Ψ : Bool → En → Prop} (h : TD X ρ a false) (h' : TP X ρ b Ψ) : TP X ρ (.BoolOp .Or [a, b] pos) Ψ := fun B0 B σ H0 H Q j kk =>
  ⟨_, (pw_or pt_star (pw_or1 pt_star)).pt, h B0 B σ H0 H _ j fun H0' H' g => iteF (h' B0 B σ H0' H' _ (j.grow g) kk)⟩
theorem ws_pickM (s : Nat) {x1 x2 : Addr × OC} {T R : Cs} {d0 : D} (hρ : ρ[s]? = some (.ox (x1 :: ((x2 :: T) ++ R)) d0)) (h : WSs X rest (ρ.set s (.ox (x1 :: x2 :: R) d0)) Φ) : WSs X rest ρ Φ :=
  ws_pick s hρ (fun x hx => by
    rcases List.mem_cons.mp hx with rfl | hx
    · exact List.mem_cons_self ..
    · rcases List.mem_cons.mp hx with rfl | hx
      · exact List.mem_cons_of_mem _ (List.mem_append_left _ (List.mem_cons_self ..))
      · exact List.mem_cons_of_mem _ (List.mem_append_right _ hx)) (fun nd => by
    have e : (pl (x1 :: x2 :: R)).Sublist (pl (x1 :: ((x2 :: T) ++ R))) := by
      refine List.Sublist.map _ (List.Sublist.cons₂ _ ?_)
      exact List.Sublist.cons₂ _ (List.sublist_append_right T R)
    exact nd.sublist e) h
end
end DL
namespace DL
open PySem PySem.Spec PyProof.Rows L2
structure DSt where
  Z : List Rw
  c : Option DCel
def DSt.all (s : DSt) : List Rw := s.Z ++ (s.c.map DCel.rw).toList
def stD (s : DSt) : LPart → DSt
  | .c n => ⟨s.all, some ⟨n, [], [], [], "cell"⟩⟩
  | .s v => ⟨s.Z, s.c.map fun x => ⟨x.n, x.S ++ [v], x.L, x.P, "shape"⟩⟩
  | .l v => ⟨s.Z, s.c.map fun x => ⟨x.n, x.S, x.L ++ [v], x.P, "label"⟩⟩
  | .p v => ⟨s.Z, s.c.map fun x => ⟨x.n, x.S, x.L, x.P ++ [v], "place"⟩⟩
def runD (ps : List LPart) : DSt := ps.foldl stD ⟨[], none⟩
theorem runD_snoc (ps : List LPart) (p : LPart) : runD (ps ++ [p]) = stD (runD ps) p := by unfold runD; rw [List.foldl_append]; rfl
def prtR (r : Rw) : List LPart := .c r.n :: (r.S.map .s ++ (r.L.map .l ++ r.P.map .p))
def prts (rs : List Rw) : List LPart := (rs.map prtR).flatten
theorem prts_snoc (rs : List Rw) (r : Rw) : prts (rs ++ [r]) = prts rs ++ prtR r := by unfold prts; simp
def loT : List Str := ["cell", "shape", "label", "place"]
/-- what is asked of the next line -/
def DOk (s : DSt) : LPart → Prop
  | .c n => (∀ x ∈ s.c.toList, x.Ok s.Z) ∧ s.all.length < 60 ∧ (.inr n : Key) ∉ keyD s.all ∧ nameB n = true
  | .s v => ∃ x, s.c = some x ∧ x.w ∈ (["cell", "shape"] : List Str) ∧ x.S.length < 1000 ∧ WnS v
  | .l v => ∃ x, s.c = some x ∧ x.w ∈ (["cell", "shape", "label"] : List Str) ∧ x.L.length < 1000 ∧ WnL v
  | .p v => ∃ x, s.c = some x ∧ x.w ∈ loT ∧ x.P.length < 1000 ∧ WnP v ∧ (.inr v.n : Key) ∈ keyD s.Z
theorem DOk.ok {s : DSt} {p : LPart} (h : DOk s p) : p.Ok := by
  cases p with
  | c n => exact h.2.2.2
  | s v => obtain ⟨_, _, _, _, h⟩ := h; exact h
  | l v => obtain ⟨_, _, _, _, h⟩ := h; exact h
  | p v => obtain ⟨_, _, _, _, h, _⟩ := h; exact h
theorem run_S (Z : List Rw) (n : Str) : ∀ (S W : List Shp) (w : Str), (S.map LPart.s).foldl stD ⟨Z, some ⟨n, W, [], [], w⟩⟩ = ⟨Z, some ⟨n, W ++ S, [], [], if S = [] then w else "shape"⟩⟩
  | [], W, w => by simp
  | v :: S, W, w => by
    rw [List.map_cons, List.foldl_cons]
    show (S.map LPart.s).foldl stD ⟨Z, some ⟨n, W ++ [v], [], [], "shape"⟩⟩ = _
    rw [run_S Z n S (W ++ [v]) "shape", List.append_assoc, if_neg (List.cons_ne_nil v S)]
    congr 3
    split <;> rfl
theorem run_L (Z : List Rw) (n : Str) (S : List Shp) : ∀ (L W : List Lab) (w : Str), (L.map LPart.l).foldl stD ⟨Z, some ⟨n, S, W, [], w⟩⟩ = ⟨Z, some ⟨n, S, W ++ L, [], if L = [] then w else "label"⟩⟩
  | [], W, w => by simp
  | v :: L, W, w => by
    rw [List.map_cons, List.foldl_cons]
    show (L.map LPart.l).foldl stD ⟨Z, some ⟨n, S, W ++ [v], [], "label"⟩⟩ = _
    rw [run_L Z n S L (W ++ [v]) "label", List.append_assoc, if_neg (List.cons_ne_nil v L)]
    congr 3
    split <;> rfl
theorem run_P (Z : List Rw) (n : Str) (S : List Shp) (L : List Lab) : ∀ (P W : List Pla) (w : Str), (P.map LPart.p).foldl stD ⟨Z, some ⟨n, S, L, W, w⟩⟩ = ⟨Z, some ⟨n, S, L, W ++ P, if P = [] then w else "place"⟩⟩
  | [], W, w => by simp
  | v :: P, W, w => by
    rw [List.map_cons, List.foldl_cons]
    show (P.map LPart.p).foldl stD ⟨Z, some ⟨n, S, L, W ++ [v], "place"⟩⟩ = _
    rw [run_P Z n S L P (W ++ [v]) "place", List.append_assoc, if_neg (List.cons_ne_nil v P)]
    congr 3
    split <;> rfl
/-- a part of a cell's lines, behind whole cells -/
theorem run_cel {s : DSt} {n : Str} {S : List Shp} {L : List Lab} {P : List Pla} : ∃ w, ((.c n :: (S.map .s ++ (L.map .l ++ P.map .p))) : List LPart).foldl stD s = ⟨s.all, some ⟨n, S, L, P, w⟩⟩ ∧ w ∈ loT ∧ (P = [] → w ∈ (["cell", "shape", "label"] : List Str)) ∧ (P = [] → L = [] → w ∈ (["cell", "shape"] : List Str)) := by
  refine ⟨if P = [] then (if L = [] then (if S = [] then "cell" else "shape") else "label") else "place", ?_, ?_, ?_, ?_⟩
  · rw [List.foldl_cons, List.foldl_append, List.foldl_append]
    show (P.map LPart.p).foldl stD ((L.map LPart.l).foldl stD ((S.map LPart.s).foldl stD ⟨s.all, some ⟨n, [], [], [], "cell"⟩⟩)) = _
    rw [run_S, run_L, run_P]
    simp only [List.nil_append]
  · split
    · split
      · split <;> simp [loT]
      · simp [loT]
    · simp [loT]
  · intro hP
    rw [if_pos hP]
    split
    · split <;> simp
    · simp
  · intro hP hL
    rw [if_pos hP, if_pos hL]
    split <;> simp
theorem runD_full (rs : List Rw) : (runD (prts rs)).all = rs := by
  refine snoc_ind (P := fun rs => (runD (prts rs)).all = rs) rfl (fun l x ih => ?_) rs
  rw [prts_snoc]
  unfold runD at ih ⊢
  rw [List.foldl_append]
  unfold prtR
  obtain ⟨w, e, _⟩ := run_cel (s := (prts l).foldl stD ⟨[], none⟩) (n := x.n) (S := x.S) (L := x.L) (P := x.P)
  rw [e, ih]; rfl
/-- a library that may be written and read -/
structure TxR (rs : List Rw) : Prop where
  ok : LibOk rs
  cel : ∀ r ∈ rs, CelOk r.n r.S r.L r.P
  pt : ∀ p ∈ prts rs, p.Ok
  sz : ∀ r ∈ rs, r.S.length ≤ 100 ∧ r.L.length ≤ 100 ∧ r.P.length ≤ 100
  few : rs.length ≤ 60
theorem key_nms (rs : List Rw) (n : Str) : (.inr n : Key) ∈ keyD rs ↔ n ∈ nmsL (libL rs) := by
  rw [libL_nms]
  unfold keyD
  simp only [List.mem_map]
  exact ⟨fun ⟨r, h1, h2⟩ => ⟨r, h1, Sum.inr.inj h2⟩, fun ⟨r, h1, h2⟩ => ⟨r, h1, congrArg Sum.inr h2⟩⟩
theorem prts_app (a b : List Rw) : prts (a ++ b) = prts a ++ prts b := by unfold prts; simp
theorem TxR.take {rs : List Rw} (t : TxR rs) (k : Nat) : TxR (rs.take k) := by
  refine ⟨fun i b h => ?_, fun b h => t.cel b (List.mem_of_mem_take h), fun p h => t.pt p ?_, fun b h => t.sz b (List.mem_of_mem_take h), by rw [List.length_take]; have := t.few; omega⟩
  · have hi : i < k := by
      have := (List.getElem?_eq_some_iff.mp h).1
      rw [List.length_take] at this; omega
    rw [List.getElem?_take_of_lt hi] at h
    have := t.ok i b h
    rw [List.take_take, Nat.min_eq_left (Nat.le_of_lt hi)]
    exact this
  · have e := List.take_append_drop k rs
    rw [← e, prts_app]
    exact List.mem_append_left _ h
theorem cel_ok_of {rs : List Rw} {r : Rw} {Z : List Rw} (t : TxR rs) (hr : r ∈ rs) (hn : (.inr r.n : Key) ∉ keyD Z) (w : Str) : DCel.Ok Z ⟨r.n, r.S, r.L, r.P, w⟩ := by
  have ok := t.cel r hr
  have sz := t.sz r hr
  have nm : ∀ {n : Str}, nameB n = true → n.length ≤ sizeLine := fun h => by have := nameB_len h; rw [sizeLine_eq]; omega
  refine ⟨ok, hn, nm ok.n, by show r.S.length ≤ _; omega, by show r.L.length ≤ _; omega, by show r.P.length ≤ _; omega, fun v h => ?_, fun v h => ?_⟩
  · have := ok.l v h
    unfold labB at this
    rw [Bool.and_eq_true] at this
    exact nm this.1
  · have := ok.p v h
    unfold plaB at this
    rw [Bool.and_eq_true] at this
    exact nm this.1
theorem TxR.nd {rs : List Rw} (t : TxR rs) : (nmsL (libL rs)).Nodup := by
  have key : ∀ k, k ≤ rs.length → (nmsL (libL (rs.take k))).Nodup := by
    intro k
    induction k with
    | zero => intro _; simp [libL, nmsL]
    | succ k ih =>
      intro h
      have hk : rs[k]? = some rs[k] := List.getElem?_eq_getElem (by omega)
      have c := t.ok k _ hk
      rw [List.take_add_one, hk]
      simp only [Option.toList]
      rw [libL_snoc, stepL_nms, List.nodup_append]
      refine ⟨ih (by omega), by simp, fun a ha b hb => ?_⟩
      rw [List.mem_singleton] at hb
      subst hb
      exact fun e => c.new (e ▸ ha)
  have := key rs.length (Nat.le_refl _)
  rwa [List.take_length] at this
/-- the cell that stands open is one of those before -/
theorem runD_cur {rs : List Rw} (t : TxR rs) : ∀ x ∈ (runD (prts rs)).c.toList, x.Ok (runD (prts rs)).Z := by
  intro x hx
  have h := runD_full rs
  unfold DSt.all at h
  have hc : (runD (prts rs)).c = some x := by simpa using hx
  rw [hc] at h
  have hm : x.rw ∈ rs := by rw [← h]; simp
  have nd := t.nd
  rw [libL_nms, ← h, List.map_append, List.nodup_append] at nd
  have hn : (.inr x.rw.n : Key) ∉ keyD (runD (prts rs)).Z := fun m => by
    rw [key_nms, libL_nms] at m
    exact nd.2.2 _ m _ (by simp) rfl
  exact cel_ok_of t hm hn x.w
theorem takes_S {S : List Shp} {R : List LPart} {j : Nat} (h : j ≤ S.length) : (S.map LPart.s ++ R).take j = (S.take j).map LPart.s := by
  rw [List.take_append_of_le_length (by rw [List.length_map]; exact h), List.map_take]
theorem takes_L {S : List Shp} {L : List Lab} {R : List LPart} {j : Nat} (h : S.length ≤ j) (h2 : j ≤ S.length + L.length) : (S.map LPart.s ++ (L.map LPart.l ++ R)).take j = S.map LPart.s ++ (L.take (j - S.length)).map LPart.l := by
  rw [List.take_append, List.take_of_length_le (by rw [List.length_map]; exact h), List.length_map, List.take_append_of_le_length (by rw [List.length_map]; omega), List.map_take]
theorem takes_P {S : List Shp} {L : List Lab} {P : List Pla} {j : Nat} (h : S.length + L.length ≤ j) : (S.map LPart.s ++ (L.map LPart.l ++ P.map LPart.p)).take j = S.map LPart.s ++ (L.map LPart.l ++ (P.take (j - S.length - L.length)).map LPart.p) := by
  rw [List.take_append, List.take_of_length_le (by rw [List.length_map]; omega), List.length_map, List.take_append, List.take_of_length_le (by rw [List.length_map]; omega), List.length_map, List.map_take]
/-- every line may stand where it stands -/
theorem parts_ok : ∀ (rs : List Rw), TxR rs → ∀ (i : Nat) p, (prts rs)[i]? = some p → DOk (runD ((prts rs).take i)) p := by
  intro rs
  refine snoc_ind (P := fun rs => TxR rs → ∀ (i : Nat) p, (prts rs)[i]? = some p → DOk (runD ((prts rs).take i)) p) (fun _ i l h => by simp [prts] at h) (fun rs r ih t i p h => ?_) rs
  have tp : TxR rs := by have := t.take rs.length; rwa [List.take_left] at this
  have hrm : r ∈ rs ++ [r] := by simp
  have hri : (rs ++ [r])[rs.length]? = some r := by rw [List.getElem?_append_right (Nat.le_refl _), Nat.sub_self]; rfl
  have hc := t.ok rs.length r hri
  rw [List.take_left] at hc
  have okr := t.cel r hrm
  have szr := t.sz r hrm
  have hfew := t.few
  have hpm := t.pt p (List.mem_of_getElem? h)
  rw [List.length_append] at hfew
  rw [prts_snoc] at h ⊢
  by_cases hi : i < (prts rs).length
  · rw [List.getElem?_append_left hi] at h
    rw [List.take_append_of_le_length (Nat.le_of_lt hi)]
    exact ih tp i p h
  · rw [List.getElem?_append_right (by omega)] at h
    have et : (prts rs ++ prtR r).take i = prts rs ++ (prtR r).take (i - (prts rs).length) := by
      rw [List.take_append, List.take_of_length_le (by omega)]
    rw [et]
    generalize i - (prts rs).length = j at h
    have hr := runD_full rs
    have hcu := runD_cur tp
    unfold runD at hr hcu ⊢
    rw [List.foldl_append]
    match j, h with
    | 0, h =>
      have : p = .c r.n := by unfold prtR at h; simpa using h.symm
      subst this
      show DOk ((prts rs).foldl stD ⟨[], none⟩) (.c r.n)
      refine ⟨hcu, ?_, ?_, okr.n⟩
      · rw [hr]; simp at hfew; omega
      · rw [hr, key_nms]; exact hc.new
    | j + 1, h =>
      unfold prtR at h ⊢
      rw [List.getElem?_cons_succ] at h
      rw [List.take_succ_cons]
      by_cases hj : j < r.S.length
      · rw [List.getElem?_append_left (by rw [List.length_map]; exact hj), List.getElem?_map, List.getElem?_eq_getElem hj] at h
        have : p = .s r.S[j] := by simpa using h.symm
        subst this
        rw [takes_S (Nat.le_of_lt hj), show (r.S.take j).map LPart.s = (r.S.take j).map LPart.s ++ (([] : List Lab).map LPart.l ++ ([] : List Pla).map LPart.p) by simp]
        obtain ⟨w, e, e1, e2, e3⟩ := run_cel (s := (prts rs).foldl stD ⟨[], none⟩) (n := r.n) (S := r.S.take j) (L := []) (P := [])
        rw [e]
        exact ⟨_, rfl, e3 rfl rfl, by show (r.S.take j).length < _; rw [List.length_take]; omega, hpm⟩
      · rw [List.getElem?_append_right (by rw [List.length_map]; omega), List.length_map] at h
        by_cases hj2 : j - r.S.length < r.L.length
        · rw [List.getElem?_append_left (by rw [List.length_map]; exact hj2), List.getElem?_map, List.getElem?_eq_getElem hj2] at h
          have : p = .l r.L[j - r.S.length] := by simpa using h.symm
          subst this
          rw [takes_L (by omega) (by omega), show (r.L.take (j - r.S.length)).map LPart.l = (r.L.take (j - r.S.length)).map LPart.l ++ ([] : List Pla).map LPart.p by simp]
          obtain ⟨w, e, e1, e2, e3⟩ := run_cel (s := (prts rs).foldl stD ⟨[], none⟩) (n := r.n) (S := r.S) (L := r.L.take (j - r.S.length)) (P := [])
          rw [e]
          exact ⟨_, rfl, e2 rfl, by show (r.L.take _).length < _; rw [List.length_take]; omega, hpm⟩
        · rw [List.getElem?_append_right (by rw [List.length_map]; omega), List.length_map, List.getElem?_map] at h
          have hj3 : j - r.S.length - r.L.length < r.P.length := by
            refine Classical.byContradiction fun z => ?_
            rw [List.getElem?_eq_none (by omega)] at h
            cases h
          rw [List.getElem?_eq_getElem hj3] at h
          have : p = .p r.P[j - r.S.length - r.L.length] := by simpa using h.symm
          subst this
          rw [takes_P (by omega)]
          obtain ⟨w, e, e1, e2, e3⟩ := run_cel (s := (prts rs).foldl stD ⟨[], none⟩) (n := r.n) (S := r.S) (L := r.L) (P := r.P.take (j - r.S.length - r.L.length))
          rw [e]
          refine ⟨_, rfl, e1, by show (r.P.take _).length < _; rw [List.length_take]; omega, hpm, ?_⟩
          show _ ∈ keyD (DSt.all _)
          rw [hr, key_nms]
          exact hc.old _ (List.getElem_mem hj3)
theorem e_cell : ("cell " : Str) = ("cell" : Str) ++ (" " : Str) := by decide +kernel
theorem lnW_c (n : Str) : lnW (wnC n) = ("cell " : Str) ++ n := by
  rw [e_cell]; unfold lnW wnC
  simp only [Str.join, app_assoc]
theorem prtR_ln (r : Rw) : (prtR r).map (fun p => lnW p.ws) = lnC r := by
  unfold prtR lnC
  rw [List.map_cons, List.map_append, List.map_append, List.map_map, List.map_map, List.map_map, List.append_assoc, List.append_assoc]
  show lnW (wnC r.n) :: _ = _
  rw [lnW_c]; rfl
theorem prts_ln (rs : List Rw) : (prts rs).map (fun p => lnW p.ws) = lnR rs := by
  refine snoc_ind (P := fun rs => (prts rs).map (fun p => lnW p.ws) = lnR rs) rfl (fun l x ih => ?_) rs
  rw [prts_snoc, lnR_snoc, List.map_append, ih, prtR_ln]
def txR (rs : List Rw) : Str := Str.join "\n" (lnR rs)
theorem prts_len {rs : List Rw} (t : TxR rs) : (prts rs).length ≤ 18060 := by
  have h : ∀ xs : List Rw, (∀ r ∈ xs, r.S.length ≤ 100 ∧ r.L.length ≤ 100 ∧ r.P.length ≤ 100) → (prts xs).length ≤ 301 * xs.length := fun xs => by
    induction xs with
    | nil => intro _; simp [prts]
    | cons x xs ih =>
      intro hx
      have h1 := ih fun b hb => hx b (List.mem_cons_of_mem _ hb)
      have h2 := hx x List.mem_cons_self
      have e : prts (x :: xs) = prtR x ++ prts xs := by simp [prts]
      rw [e, List.length_append, List.length_cons]
      have h3 : (prtR x).length ≤ 301 := by simp only [prtR, List.length_cons, List.length_append, List.length_map]; omega
      omega
  have := h rs t.sz
  have := t.few
  omega
theorem txR_room {rs : List Rw} (t : TxR rs) : sumL (lnR rs) + (lnR rs).length * ("\n" : Str).length ≤ 7500000 := by
  rw [← prts_ln]
  have h1 := sumL_le (k := 400) (zs := (prts rs).map fun p => lnW p.ws) fun z hz => by
    obtain ⟨p, hp, rfl⟩ := List.mem_map.mp hz
    exact LPart.len (t.pt p hp)
  have h2 := prts_len t
  rw [List.length_map] at h1 ⊢
  have := lens.2.2.2.2.2
  rw [this]
  have : 400 * (prts rs).length ≤ 400 * 18060 := Nat.mul_le_mul_left _ h2
  omega
theorem txR_len {rs : List Rw} (t : TxR rs) : (txR rs).length ≤ 7500000 := Nat.le_trans (join_len _ _) (txR_room t)
theorem txR_split {rs : List Rw} (t : TxR rs) (hne : prts rs ≠ []) : Txt.split (txR rs) "\n" = lnR rs := by
  unfold txR
  rw [← prts_ln, ← TL.join_eq]
  refine TL.split_join sep_tl.2 (by decide +kernel) (by simpa using hne) fun p hp => ?_
  obtain ⟨l, hl, rfl⟩ := List.mem_map.mp hp
  exact ln_free (LPart.wok (t.pt l hl))
theorem LPart.pos (p : LPart) : 0 < (lnW p.ws).length := by
  have key : ∀ (w : Str) (r : List Str), 0 < w.length → 0 < (lnW (w :: r)).length := fun w r h => by
    have := join_head " " w r
    unfold lnW; omega
  cases p with
  | c n => exact key "cell" _ (by decide +kernel)
  | s v => exact key "shape" _ (by decide +kernel)
  | l v => exact key "label" _ (by decide +kernel)
  | p v => exact key "place" _ (by decide +kernel)
theorem txR_ne {rs : List Rw} (h : prts rs ≠ []) : txR rs ≠ "" := fun e => by
  unfold txR at e
  rw [← prts_ln] at e
  cases q : prts rs with
  | nil => exact h q
  | cons l r =>
    rw [q, List.map_cons] at e
    have h1 := join_head "\n" (lnW l.ws) (r.map fun p => lnW p.ws)
    rw [e] at h1
    have h2 := l.pos
    have : ("" : Str).length = 0 := by decide +kernel
    omega
theorem txR_if {rs : List Rw} (t : TxR rs) : (if (!decide (txR rs = ("" : Str))) = true then D.lst ((Txt.split (txR rs) "\n").map .str) else D.lst []) = D.lst (((prts rs).map fun p => lnW p.ws).map .str) := by
  by_cases h : prts rs = []
  · have e : txR rs = "" := by unfold txR; rw [← prts_ln, h]; decide +kernel
    rw [decide_eq_true e, h]; rfl
  · rw [decide_eq_false (txR_ne h), txR_split t h, prts_ln]; rfl
def p00 : LPart := .c "a"
theorem txR_enum {rs : List Rw} : enumK 1 (((prts rs).map fun p => lnW p.ws).map .str) = (List.range (prts rs).length).map fun (i : Nat) => D.tup [.int (((1 : Nat) : Int) + (i : Int)), .str (lnW ((prts rs).getD i p00).ws)] := by
  refine List.ext_getElem? fun i => ?_
  by_cases h : i < (prts rs).length
  · unfold enumK
    rw [List.getElem?_zipWith, List.length_map, List.length_map, List.getElem?_range h, List.getElem?_map, List.getElem?_map, List.getElem?_map, List.getElem?_range h, List.getElem?_eq_getElem h]
    have e : (prts rs).getD i p00 = (prts rs)[i] := by rw [List.getD_eq_getElem?_getD, List.getElem?_eq_getElem h]; rfl
    show some (D.tup [D.int (((1 : Nat) : Int) + (i : Int)), .str (lnW ((prts rs)[i]).ws)]) = some (D.tup [D.int (((1 : Nat) : Int) + (i : Int)), .str (lnW ((prts rs).getD i p00).ws)])
    rw [e]
  · rw [List.getElem?_eq_none (by rw [enumK_len, List.length_map, List.length_map]; omega), List.getElem?_eq_none (by rw [List.length_map, List.length_range]; omega)]
theorem dr_shw {K : PySem.W.Frag} {H : Hp} {a p : Addr} {k1 : List Key} {e1 : List D} {d1 d2 d3 : D} {cs : Cs} (v : V) (h : ∀ x ∈ (((a, .ins "Draft" drN [.ad p, d1, d2, d3]) :: (p, .dk k1 e1) :: cs) : Cs), DR K H x.2.d (.ref x.1)) (w : DR K H (.ad a) v) : DR K H (.obj "Draft" drN [.dk k1 e1, d1, d2, d3]) v := by
  cases (show v = .ref a from w)
  refine obj_imp (h (a, .ins "Draft" drN [.ad p, d1, d2, d3]) (by simp)) rfl fun i d e h1 h2 u w => ?_
  match i, h1, h2 with
  | 0, h1, h2 => cases h1; cases h2; cases (show u = .ref p from w); exact h (p, .dk k1 e1) (by simp)
  | 1, h1, h2 => cases h1; cases h2; exact w
  | 2, h1, h2 => cases h1; cases h2; exact w
  | 3, h1, h2 => cases h1; cases h2; exact w
  | i + 4, h1, h2 => simp at h1
theorem wd_ne : decide (("shape" : Str) = ("cell" : Str)) = false ∧ decide (("label" : Str) = ("cell" : Str)) = false ∧ decide (("place" : Str) = ("cell" : Str)) = false ∧ decide (("shape" : Str) = ("place" : Str)) = false ∧ decide (("label" : Str) = ("place" : Str)) = false := by decide +kernel
theorem wd_c {p : LPart} (h : decide (p.wd = ("cell" : Str)) = true) : ∃ n, p = .c n := by
  cases p with
  | c n => exact ⟨n, rfl⟩
  | s v => change decide (("shape" : Str) = ("cell" : Str)) = true at h; rw [wd_ne.1] at h; cases h
  | l v => change decide (("label" : Str) = ("cell" : Str)) = true at h; rw [wd_ne.2.1] at h; cases h
  | p v => change decide (("place" : Str) = ("cell" : Str)) = true at h; rw [wd_ne.2.2.1] at h; cases h
/-- a line that is no cell's first -/
theorem wd_x {p : LPart} {s : DSt} (h : decide (p.wd = ("cell" : Str)) = false) (ok : DOk s p) : ∃ x, s.c = some x ∧ x.w ∈ loT ∧ p.wd ∈ loT ∧ decide (((loT.idxOf p.wd : Nat) : Int) < ((loT.idxOf x.w : Nat) : Int)) = false := by
  have key3 : ∀ w ∈ (["cell", "shape"] : List Str), w ∈ loT ∧ decide (((loT.idxOf ("shape" : Str) : Nat) : Int) < ((loT.idxOf w : Nat) : Int)) = false := by decide +kernel
  have key4 : ∀ w ∈ (["cell", "shape", "label"] : List Str), w ∈ loT ∧ decide (((loT.idxOf ("label" : Str) : Nat) : Int) < ((loT.idxOf w : Nat) : Int)) = false := by decide +kernel
  have key5 : ∀ w ∈ loT, decide (((loT.idxOf ("place" : Str) : Nat) : Int) < ((loT.idxOf w : Nat) : Int)) = false := by decide +kernel
  cases p with
  | c n => exact absurd rfl (of_decide_eq_false h)
  | s v => obtain ⟨x, h1, h2, _⟩ := ok; exact ⟨x, h1, (key3 _ h2).1, by simp [LPart.wd, loT], (key3 _ h2).2⟩
  | l v => obtain ⟨x, h1, h2, _⟩ := ok; exact ⟨x, h1, (key4 _ h2).1, by simp [LPart.wd, loT], (key4 _ h2).2⟩
  | p v => obtain ⟨x, h1, h2, _⟩ := ok; exact ⟨x, h1, h2, by simp [LPart.wd, loT], key5 _ h2⟩
theorem wd_p {p : LPart} (h : (!decide (p.wd = ("place" : Str))) = false) : ∃ v, p = .p v := by
  have l : decide (("cell" : Str) = ("place" : Str)) = false := by decide +kernel
  cases p with
  | c n => change (!decide (("cell" : Str) = ("place" : Str))) = false at h; rw [l] at h; cases h
  | s v => change (!decide (("shape" : Str) = ("place" : Str))) = false at h; rw [wd_ne.2.2.2.1] at h; cases h
  | l v => change (!decide (("label" : Str) = ("place" : Str))) = false at h; rw [wd_ne.2.2.2.2] at h; cases h
  | p v => exact ⟨v, rfl⟩
section
variable {X : Cx}
theorem c2_neO {n : Str} {c : Option DCel} (hu : X.A.units + 64 < cLine) (hn : nameB n = true) (h : ∀ x ∈ c.toList, n ≠ x.n) : C2 X .NotEq (.str n) (nmD c) (.bl true) := by
  cases c with
  | none => exact c2_neD (k := false) hu (Cm.cmp (n := 0) (.str (name_small hn)) (by decide)) ⟨rfl, by show SeqAt.shaped PyData.none = true; decide +kernel⟩ rfl
  | some x =>
    have := c2_neS (X := X) (i := n) (j := x.n)
    rw [decide_eq_false (h x (by simp))] at this
    exact this
end
theorem keyD_len (Z : List Rw) : (keyD Z).length = Z.length := by unfold keyD; rw [List.length_map]
theorem begun_eq (s : DSt) : (((keyD s.Z).length : Nat) : Int) + (if isNon (nmD s.c) = true then (0 : Int) else 1) = (s.all.length : Int) := by
  unfold DSt.all
  rw [keyD_len, List.length_append]
  cases s.c with
  | none => simp [nmD, isNon]
  | some x => simp [nmD, isNon]
theorem keyD_all (s : DSt) : keyD s.all = keyD s.Z ++ (s.c.map fun x => (.inr x.n : Key)).toList := by
  unfold DSt.all keyD
  rw [List.map_append]
  cases s.c <;> rfl
theorem new_c {s : DSt} {n : Str} (h : (.inr n : Key) ∉ keyD s.all) : hasK (keyD s.Z) (.inr n) = false ∧ ∀ x ∈ s.c.toList, n ≠ x.n := by
  rw [keyD_all] at h
  refine ⟨hasK_not.mpr fun m => h (List.mem_append_left _ m), fun x hx e => h (List.mem_append_right _ ?_)⟩
  have hc : s.c = some x := by simpa using hx
  rw [hc, e]; simp
end DL
namespace DL
open PySem PySem.Spec PyProof.Rows L2
def ptM : LPart → Nat
  | .c _ => 3
  | .s _ => 3
  | .l _ => 4
  | .p _ => 5
def ptA (b1 b2 b3 : Addr) : LPart → Addr
  | .c _ => b1
  | .s _ => b1
  | .l _ => b2
  | .p _ => b3
def ptL (x : DCel) : LPart → List D
  | .c _ => x.S.map shE
  | .s _ => x.S.map shE
  | .l _ => x.L.map Lab.e
  | .p _ => x.P.map Pla.e
def appC (x : DCel) : LPart → DCel
  | .c _ => x
  | .s v => ⟨x.n, x.S ++ [v], x.L, x.P, x.w⟩
  | .l v => ⟨x.n, x.S, x.L ++ [v], x.P, x.w⟩
  | .p v => ⟨x.n, x.S, x.L, x.P ++ [v], x.w⟩
abbrev prK : List Key := [.inr "shape", .inr "label", .inr "place"]
/-- the cells, the word told by itself -/
def drW (a p q b1 b2 b3 : Addr) (Z : List Rw) (x : DCel) (w : Str) : Cs := [(a, .ins "Draft" drN [.ad p, .str x.n, .ad q, .str w]), (p, .dk (keyD Z) (cvD Z)), (q, .dk prK [.ad b1, .ad b2, .ad b3]), (b1, .lst (x.S.map shE)), (b2, .lst (x.L.map Lab.e)), (b3, .lst (x.P.map Pla.e))]
theorem drX_W (a p q b1 b2 b3 : Addr) (Z : List Rw) (x : DCel) : drX a p q b1 b2 b3 Z (some x) = drW a p q b1 b2 b3 Z x x.w := rfl
theorem app_at (a p q b1 b2 b3 : Addr) (Z : List Rw) (x : DCel) (w : Str) (t : LPart) : (drW a p q b1 b2 b3 Z x w)[ptM t]? = some (ptA b1 b2 b3 t, .lst (ptL x t)) := by cases t <;> rfl
theorem app_lk {b1 b2 b3 : Addr} {t : LPart} (h : decide (t.wd = ("cell" : Str)) = false) : lookK prK [.ad b1, .ad b2, .ad b3] (.inr t.wd) = some (.ad (ptA b1 b2 b3 t)) := by
  cases t with
  | c n => exact absurd rfl (of_decide_eq_false h)
  | s v => rfl
  | l v => rfl
  | p v => rfl
theorem app_set {a p q b1 b2 b3 : Addr} {Z : List Rw} {x : DCel} {w : Str} {t : LPart} (h : decide (t.wd = ("cell" : Str)) = false) : (drW a p q b1 b2 b3 Z x w).set (ptM t) (ptA b1 b2 b3 t, .lst (ptL x t ++ [t.v])) = drW a p q b1 b2 b3 Z (appC x t) w := by
  cases t with
  | c n => exact absurd rfl (of_decide_eq_false h)
  | s v => simp [drW, ptM, ptA, ptL, LPart.v, appC]
  | l v => simp [drW, ptM, ptA, ptL, LPart.v, appC]
  | p v => simp [drW, ptM, ptA, ptL, LPart.v, appC]
theorem app_room {Z : List Rw} {x : DCel} {t : LPart} (h : decide (t.wd = ("cell" : Str)) = false) (ok : DOk ⟨Z, some x⟩ t) : (ptL x t).length < sizeLine := by
  cases t with
  | c n => exact absurd rfl (of_decide_eq_false h)
  | s v => obtain ⟨y, e, _, hl, _⟩ := ok; cases e; show (x.S.map _).length < _; rw [List.length_map, sizeLine_eq]; omega
  | l v => obtain ⟨y, e, _, hl, _⟩ := ok; cases e; show (x.L.map _).length < _; rw [List.length_map, sizeLine_eq]; omega
  | p v => obtain ⟨y, e, _, hl, _⟩ := ok; cases e; show (x.P.map _).length < _; rw [List.length_map, sizeLine_eq]; omega
theorem app_end {a p q b1 b2 b3 : Addr} {Z : List Rw} {x : DCel} {t : LPart} (h : decide (t.wd = ("cell" : Str)) = false) : drW a p q b1 b2 b3 Z (appC x t) t.wd = drX a p q b1 b2 b3 (stD ⟨Z, some x⟩ t).Z (stD ⟨Z, some x⟩ t).c := by
  cases t with
  | c n => exact absurd rfl (of_decide_eq_false h)
  | s v => rfl
  | l v => rfl
  | p v => rfl
end DL
namespace DL
theorem stD_grow (s : DSt) (p : LPart) : s.all.length ≤ (stD s p).all.length := by
  cases p with
  | c n => unfold stD; show s.all.length ≤ (s.all ++ [_]).length; rw [List.length_append]; omega
  | s v => unfold stD DSt.all; cases s.c <;> simp
  | l v => unfold stD DSt.all; cases s.c <;> simp
  | p v => unfold stD DSt.all; cases s.c <;> simp
theorem fold_grow : ∀ (ps : List LPart) (s : DSt), s.all.length ≤ (ps.foldl stD s).all.length
  | [], s => Nat.le_refl _
  | p :: ps, s => Nat.le_trans (stD_grow s p) (fold_grow ps (stD s p))
theorem runD_Zlen {rs : List Rw} (t : TxR rs) (i : Nat) : (runD ((prts rs).take i)).Z.length ≤ 1000 := by
  have h := fold_grow ((prts rs).drop i) (runD ((prts rs).take i))
  have e : ((prts rs).drop i).foldl stD (runD ((prts rs).take i)) = runD (prts rs) := by
    unfold runD; rw [← List.foldl_append, List.take_append_drop]
  rw [e, runD_full] at h
  have := t.few
  have h2 : (runD ((prts rs).take i)).Z.length ≤ (runD ((prts rs).take i)).all.length := by unfold DSt.all; rw [List.length_append]; omega
  omega
end DL
namespace DL
open PySem PySem.Spec PyProof.Rows L2
theorem libOk_cong {cs ds : List Rw} (h : cs.map (fun r => (r.n, r.P)) = ds.map (fun r => (r.n, r.P))) (hf : ∀ r ∈ ds, r.S.length ≤ 1000 ∧ r.L.length ≤ 1000 ∧ r.P.length ≤ 1000) (ok : LibOk cs) : LibOk ds := fun k c hk => by
  have h1 := congrArg (·[k]?) h
  simp only [List.getElem?_map, hk, Option.map_some] at h1
  cases q : cs[k]? with
  | none => rw [q] at h1; cases h1
  | some c' =>
    rw [q] at h1
    have h2 := Option.some.inj h1
    have en : c'.n = c.n := congrArg Prod.fst h2
    have eP : c'.P = c.P := congrArg Prod.snd h2
    have hc := ok k c' q
    have e : nmsL (libL (ds.take k)) = nmsL (libL (cs.take k)) := by
      have h3 := congrArg (fun l => (l.take k).map Prod.fst) h
      simp only [← List.map_take, List.map_map] at h3
      rw [libL_nms, libL_nms]
      exact h3.symm
    refine ⟨by rw [e, ← en]; exact hc.new, fun p hp => by rw [e]; exact hc.old p (by rw [eP]; exact hp), hf c (List.mem_of_getElem? hk), fun p hp => hc.bd p (by rw [eP]; exact hp)⟩
theorem TxR.sm {rs : List Rw} (t : TxR rs) : ∀ r ∈ rs, SmR r := fun r hr => by
  have ok := t.cel r hr
  have mem : ∀ p ∈ prtR r, p ∈ prts rs := fun p hp => by unfold prts; exact List.mem_flatten.mpr ⟨_, List.mem_map.mpr ⟨r, hr, rfl⟩, hp⟩
  refine ⟨nameB_12 ok.n, fun s h => ?_, fun v h => ?_, fun p h => ?_, t.sz r hr⟩
  · have w : WnS s := t.pt (.s s) (mem _ (by unfold prtR; simp [h]))
    have h1 := ok.s s h
    unfold shB at h1
    simp only [Bool.and_eq_true, decide_eq_true_eq] at h1
    exact ⟨lay_len _ h1.1, w.a.sm, w.b.sm, w.c.sm, w.d.sm⟩
  · have w : WnL v := t.pt (.l v) (mem _ (by unfold prtR; simp [h]))
    have h1 := ok.l v h
    unfold labB at h1
    simp only [Bool.and_eq_true, decide_eq_true_eq] at h1
    exact ⟨nameB_12 h1.1, lab_len _ h1.2, w.x.sm, w.y.sm⟩
  · have w : WnP p := t.pt (.p p) (mem _ (by unfold prtR; simp [h]))
    have h1 := ok.p p h
    unfold plaB at h1
    simp only [Bool.and_eq_true, decide_eq_true_eq] at h1
    exact ⟨nameB_12 h1.1, ⟨w.t.sm, w.dx.sm, w.dy.sm⟩, ⟨w.c.sm, w.r.sm⟩, w.sx.sm, w.sy.sm⟩
theorem rz_of {i : Int} (h : i.natAbs ≤ 1000000) : Rz i := ⟨Nat.lt_of_le_of_lt h (by decide +kernel)⟩
theorem qPl_rz (ns : List Int) (f : Int) (k j : Nat) : Rz (qPl ns f k j).t ∧ Rz (qPl ns f k j).dx ∧ Rz (qPl ns f k j).dy ∧ Rz (qPl ns f k j).c ∧ Rz (qPl ns f k j).r ∧ Rz (qPl ns f k j).sx ∧ Rz (qPl ns f k j).sy := by
  have h1 := col5_bd (qDr ns f k (6 * (j : Int) + 4))
  have h2 := lin3_bd (qDr ns f k (6 * (j : Int) + 4))
  unfold qPl
  simp only
  exact ⟨rz_of (by omega), rz_of (by omega), rz_of (by omega), rz_of (by omega), rz_of (by omega), rz_of (by omega), rz_of (by omega)⟩
def r60 (k : Nat) : Rw := ⟨mN (k : Int), [], [], []⟩
def rs60 (n : Nat) : List Rw := (List.range n).map r60
theorem rs60_tx : TxR (rs60 60) := by
  refine ⟨fun k c h => ?_, fun r hr => ?_, fun p hp => ?_, fun r hr => ?_, by simp [rs60]⟩
  · have hk : k < 60 := by have := (List.getElem?_eq_some_iff.mp h).1; simpa [rs60] using this
    have hc : c = r60 k := by
      unfold rs60 at h
      rw [List.getElem?_map, List.getElem?_range hk] at h
      exact (Option.some.inj h).symm
    subst hc
    refine ⟨fun m => ?_, fun p h => by simp [r60] at h, by simp [r60], fun p h => by simp [r60] at h⟩
    rw [libL_nms] at m
    obtain ⟨b, hb, e⟩ := List.mem_map.mp m
    have hb2 : b ∈ rs60 k := by
      unfold rs60 at hb ⊢
      rw [← List.map_take, List.take_range, Nat.min_eq_left (by omega)] at hb
      exact hb
    obtain ⟨i, hi, rfl⟩ := List.mem_map.mp hb2
    have hi := List.mem_range.mp hi
    have := congrArg Fin.val (mN_all ⟨i, by omega⟩ ⟨k, hk⟩ e)
    simp at this; omega
  · obtain ⟨k, hk, rfl⟩ := List.mem_map.mp hr
    exact ⟨mN_ok ⟨k, List.mem_range.mp hk⟩, fun x h => by simp [r60] at h, fun x h => by simp [r60] at h, fun x h => by simp [r60] at h⟩
  · unfold prts at hp
    obtain ⟨l, hl, hp⟩ := List.mem_flatten.mp hp
    obtain ⟨r, hr, rfl⟩ := List.mem_map.mp hl
    obtain ⟨k, hk, rfl⟩ := List.mem_map.mp hr
    have : p = .c (mN (k : Int)) := by simpa [prtR, r60] using hp
    rw [this]
    exact mN_ok ⟨k, List.mem_range.mp hk⟩
  · obtain ⟨k, hk, rfl⟩ := List.mem_map.mp hr
    simp [r60]
theorem e_cellm : ("cell m" : Str) = ("cell " : Str) ++ ("m" : Str) := by decide +kernel
theorem linesR_60 : ∀ n, lnR (rs60 n) = (List.range n).map fun (k : Nat) => ("cell m" : Str) ++ stI (k : Int)
  | 0 => rfl
  | n + 1 => by
    have e : rs60 (n + 1) = rs60 n ++ [r60 n] := by unfold rs60; rw [List.range_succ, List.map_append]; rfl
    rw [e, lnR_snoc, linesR_60 n, List.range_succ, List.map_append, List.map_singleton]
    congr 1
    show [("cell " : Str) ++ mN (n : Int)] = _
    unfold mN
    rw [e_cellm, app_assoc]
end DL
namespace DL
open PySem PySem.Spec PyProof.Rows L2
/-- ValueError.__init__ bound to e, called -/
theorem mw_call {prog : Program} {w : World} {A : Around} {E : Value → Shared → Prop} {h : Heap} {g : Array GenState} {d : Drawn} {t : Nat} {os : OsState} {nm q : Str} {C N u e t0 : Addr} {bs bm : List Value} {sn : List Str} {sub : List Value} {ab : Bool} {col : Option Bool} {dd : Option Addr} {k0 k1 k2 k3 k5 : Option Value} {rest : List Value} {Q : Value → Shared → Prop}
    (hC : h.get? C = some (excClassObj nm q C N bs bm true sn sub ab col dd k0 k1 k2 k3 k5 "ValueError.__new__")) (he : h.get? e = some (HandSPX.excO C t0)) (hu : h.get? u = some (PySem.W.kxs_mw "ValueError.__init__" e)) (hr : rest.length ≤ sizeLine)
    (hq : ∀ h' t1, (∀ b o, b ≠ e → h.get? b = some o → h'.get? b = some o) → h'.get? e = some (HandSPX.excO C t1) → Q .none ⟨h', g, d, t, os⟩) : wpAny (model prog w) A (call (.ref u) rest) Q E ⟨h, g, d, t, os⟩ := by
  have FB := F.excBase_ValueError
  refine wpAny_call (codeAny_of_tree (show wpAny (model prog w) A.in1 (callAny (.ref u) ⟨rest, []⟩) _ _ _ from ?_))
  unfold callAny
  refine wpAny_bind (wpAny_load hu ?_)
  have e1 : (Value.type "method-wrapper" == Value.type "method" || Value.type "method-wrapper" == Value.type "builtin_function_or_method" || Value.type "method-wrapper" == Value.type "method-wrapper") = true := by decide
  simp only [PySem.W.kxs_mw, e1, if_true]
  refine PySem.W.KFB.if_so (by decide) (wpAny_bind (PySem.W.check_bound_init FB.toExcCallFacts hC he rfl (wpAny_bind (wpAny_pure (wpAny_pure ⟨plainId_quiet FB.init.plain _, codeAny_builtin FB.initEntry ?_⟩)))))
  refine PySem.W.exc_init_tree (cls := .ref C) (t0 := t0) (dv := none) (c2 := .none) (c3 := .none) (b4 := .bool false) he hr fun h' k1 k2 _ => ?_
  exact hq h' _ k1 k2
end DL
namespace DL
open PySem PySem.Spec PyProof.Rows L2 NdefX
/-- what the written part says of an __init__ that says super() -/
structure SupK (P : Program) (K : PySem.W.Frag) (mg : Str → Option Value) (C fI cc c : Addr) (F : NF) : Prop where
  fc : F.cl = [(("__class__" : Str), cc)] ∧ F.c = c
  fn : ∃ oc od osl dV kV doc pm an ct, K.lookup fI = some ⟨oc, od, .func (PySem.W.fnX F.name F.qual F.params F.body F.scope F.cl dV kV doc pm an (.ref F.c) ct), osl⟩
  cd : PySem.W.codeIn K (.ref F.c) F.qual = true
  cell : ∃ cl cld csl, K.lookup cc = some ⟨cl, cld, .cell (some (.ref C)), csl⟩
  file : ∃ ccl cdd ccs vs fl tf, K.lookup F.c = some ⟨ccl, cdd, .fields vs, ccs⟩ ∧ vs[2]? = some (.str fl tf) ∧ ((P.main.file : Str) == fl) = true
  top : (P.main.scope.names.lookup ("super" : Str)).isSome = false
  arg : ∃ ar : Arg, (F.params.posonlyargs ++ F.params.args).head? = some ar ∧ ar.arg = ("self" : Str)
  sup : mg "super" = none
  mro : PySem.W.mroIn K C (.ref C) = some true
  opq : PySem.W.nsIn K cStatics "thirdparty.any" = some none
  ini : PySem.W.ks_superIn K C C "__init__" = some (some (.builtin "ValueError.__init__"))
  ve : PySem.W.subIn K (.ref C) (.type "ValueError") = some true
section
variable {CX : CXT} {P : Program} {w : World} {K : PySem.W.Frag} {mg : Str → Option Value} {base : Heap} {N : List Str} {F : NF} {fI C cc c a : Addr} {A : Around} {outer : List Env} {s : Shared} {H0 : Hp} {E : XK} {pins : List (Addr × Obj)} {σ : L2.St} {H : Hp} {t : TA} {R : Hp → Prop}
theorem sup_stmt {s0 : Shared} {body : List Stmt} {e : Expr} {p0 p1 ap pos pos2 : Pos} {pl : Sem Bool} (S : SupK P K mg C fI cc c F) (T : OexC K C) (I : Inv (ncx CX P w K mg base N F fI A outer s H0 E) pins σ H s0) (h0 : σ[0]? = some (some (.ref a))) (hN : N[0]? = some ("self" : Str))
    (ea : H a = some (exo a C none)) (ha : PA (ncx CX P w K mg base N F fI A outer s H0 E) [e] t) (hq : t σ H fun vs H1 => vs.length ≤ 1000 ∧ H1 a = some (exo a C none) ∧ R H1)
    (hks : F.scope.names.lookup ("super" : Str) = some .globalImplicit) (hkc : F.scope.names.lookup ("__class__" : Str) = some .free) (hka : F.scope.names.lookup ("self" : Str) = some .local) (hk : F.scope.kind = .function)
    (hi : interactive (envF F fI s.heap.objs.size) = false) (hs : swapsWith (.Call (.Attribute (.Call (.Name "super" p0) [] [] p1) "__init__" ap) [e] [] pos) none pos2.line (envF F fI s.heap.objs.size) = pure false)
    (he : eval (.Call (.Attribute (.Call (.Name "super" p0) [] [] p1) "__init__" ap) [e] [] pos) (envF F fI s.heap.objs.size) = (do
      let ov ← attributeBase (.Call (.Name "super" p0) [] [] p1) "__init__" (envF F fI s.heap.objs.size) (eval (.Call (.Name "super" p0) [] [] p1) (envF F fI s.heap.objs.size))
      standAt ap.atName
      let (f, first) ← holding [ov] (getMethod ov "__init__" pl)
      callWith pos f first (backTo pos (starEach [e] (envF F fI s.heap.objs.size))) []))
    (hst : starEach [e] (envF F fI s.heap.objs.size) = (false, eval e (envF F fI s.heap.objs.size)) :: starEach [] (envF F fI s.heap.objs.size)) :
    _root_.PySem.wpAt (model P w) (A.deeper (envF F fI s.heap.objs.size)) (.func body (envF F fI s.heap.objs.size)) (exec (.Expr (.Call (.Attribute (.Call (.Name "super" p0) [] [] p1) "__init__" ap) [e] [] pos) pos2) (envF F fI s.heap.objs.size))
      (fun fl s' => fl = .next ∧ ∃ H', Inv (ncx CX P w K mg base N F fI A outer s H0 E) pins σ H' s' ∧ R H') (ncx CX P w K mg base N F fI A outer s H0 E).xe s0 := by
  obtain ⟨oc, od, osl, dV, kV, doc, pm, an, ct, hfn⟩ := S.fn
  obtain ⟨cl, cld, csl, hcell⟩ := S.cell
  obtain ⟨ccl, cdd, ccs, vs0, fl0, tf, hcode, hvs, hfile⟩ := S.file
  obtain ⟨ar, har, har2⟩ := S.arg
  have KX : K.In s0.heap := I.kIn
  obtain ⟨nm, q, Nn, bs, bm, sn, sub, ab, col, dd, k0, k1, k2, k3, k5, hC, hbm⟩ := T.cls
  obtain ⟨mb, hmb1, hmb2⟩ := I.mod.blt
  obtain ⟨m, hns, hl⟩ := I.loc
  obtain ⟨u, ru, lu⟩ := hl 0 "self" (.ref a) hN h0 (.inl hka)
  cases (show u = Value.ref a from ru)
  have hm : m "self" = some (.ref a) := by
    rcases lu with ⟨_, lu⟩ | ⟨hz, _⟩
    · exact lu
    · have hz : F.scope.names.lookup ("self" : Str) = some .cell ∨ F.scope.names.lookup ("self" : Str) = some .free := hz
      rw [hka] at hz
      rcases hz with hz | hz <;> cases hz
  obtain ⟨t1, hx⟩ := exo_at I.hok ea
  refine ks_wpAt_Expr_any ?_ hi hs
  refine ks_wpAt_MethodCall (pl := pl) ?_ he
  refine ks_wpAt_super_base (env := envF F fI s.heap.objs.size) hks hkc (by decide +kernel) rfl (KX _ _ hfn) rfl har rfl (KX _ _ hcode) rfl hvs hfile S.top ?_
  refine PySem.W.ks_loadName_global hk hks (Calls.loadGlobal_builtin (env := envF F fI s.heap.objs.size) (mg := mg) (mb := mb) (by rw [show (envF F fI s.heap.objs.size).globals = mainGlobals from rfl]; exact I.mod.glob.keeps I.bk) S.sup (hmb1.keeps I.bk) ((hmb2 "super" (by decide)).trans (by decide +kernel)) ⟨rfl, ?_⟩)
  refine wpAny_loadName_free hk hkc (c := cc) (v := .ref C) (by rw [show (envF F fI s.heap.objs.size).cells = F.cl from rfl, S.fc.1]; rfl) ⟨_, KX _ _ hcell, rfl⟩ ?_
  rw [har2]
  refine wpAny_loadName_local hk hka hns hm ?_
  obtain ⟨hh, g, d, tk, os⟩ := s0
  have hD1 : hh.get? C = some _ := KX _ _ hC
  refine ks_wpAny_isType_cls hD1 rfl ⟨rfl, ?_⟩
  refine ks_wpAny_call_super hD1 rfl hx rfl (fun _ z => nomatch z) (PySem.W.looks_mroIn KX S.mro) fun h1 e1 kp1 => ?_
  have I1 := I.kept (t' := tk) kp1
  have KX1 : K.In h1 := KX.keeps kp1
  have hx1 := kp1 _ _ hx
  have hcl : PySem.W.clsIn K C = some { name := nm, bases := bs, mro := .ref C :: bm, ns := Nn, qualname := q, hasDict := true, slotNames := sn, subclasses := sub, abstract := ab, collection := col, hasDel := false } := by
    unfold PySem.W.clsIn; rw [hC] <;> rfl
  have ia : PySem.W.InstAt h1 a (HandSPX.excO C t1) C none := ⟨hx1, rfl, rfl, trivial⟩
  have hin := S.ini
  unfold PySem.W.ks_superIn at hin
  rw [hcl] at hin
  refine PySem.W.kxs_getMethod PySem.W.kxs_ValueError e1 (PySem.W.looks_opaque KX1 S.opq) (l₀ := .ref C :: bm) ?_ rfl KX1 hin (ia.type.andThen (PySem.W.looks_subIn KX1 S.ve)) (PySem.W.ks_ne KX1 ia hcl) (by decide +kernel) ?_
  · exact fun A2 Q2 E2 s2 k2 q2 => wpAny_bind ((PySem.W.looks_clsIn KX1 hcl) A2 _ E2 s2 k2 (wpAny_pure q2))
  have I2 : Inv (ncx CX P w K mg base N F fI A outer s H0 E) ((h1.objs.size, PySem.W.kxs_mw "ValueError.__init__" a) :: pins) σ H ⟨h1.push (PySem.W.kxs_mw "ValueError.__init__" a), g, d, tk + 1, os⟩ :=
    ClX.pin_new (t' := tk + 1) I1 (fun b o z => Heap.get?_push_of_some _ z) (Nat.le_refl _) (Heap.get?_push_at rfl rfl) (fun _ z => nomatch z)
  have hrun := ha.run pos _ _ σ H _ I2 hq
  change wpAny (model P w) (A.deeper (envF F fI s.heap.objs.size)) (spliced (backTo pos (starEach [e] (envF F fI s.heap.objs.size)))) _ _ _ at hrun
  rw [hst] at hrun ⊢
  refine PySem.W.kxs_callWith (i := "ValueError.__init__") (x := a) rfl (Calls.evalArgs_plain (wpAny_mono hrun (fun us s3 hz => ?_) fun _ _ z => z))
  obtain ⟨vs, H1, I3, rv, hlen, ea1, q3⟩ := hz
  refine ⟨ClX.pin_at I3, ?_⟩
  obtain ⟨t2, hx3⟩ := exo_at I3.hok ea1
  have hu3 := ClX.pin_at I3
  have I4 := ClX.unpin I3
  obtain ⟨h3, g3, d3, tk3, os3⟩ := s3
  refine mw_call (I4.kIn _ _ hC) hx3 hu3 (by show us.length ≤ sizeLine; rw [← rv.length, sizeLine_eq]; omega) fun h4 t4 kp4 hx4 => ⟨rfl, H1, ?_, q3⟩
  have J := I4.write (t' := tk3) (x := a) (e := a) (o := exo a C none) (by rw [ea1]; exact True.intro) (.inl rfl) kp4 ⟨_, hx4⟩ (exo_ok hx4)
  have eu : upd H1 a (exo a C none) = H1 := by
    funext b
    by_cases hb : b = a
    · rw [hb, upd_same, ea1]
    · rw [upd_ne hb]
  rw [eu] at J
  exact J
end
end DL
namespace DL
open PySem PySem.Spec PyProof.Rows L2 NdefX
/-- what an __init__ of errors is told: the object at a, its arguments; what its fields hold (the last one first) -/
def spE (K : PySem.W.Frag) (C : Addr) (ns : List Str) (R : List D → List D → Prop) : Sp := fun vs H Q _ => ∃ H0 a ds es ws, vs = .ref a :: ws ∧ Same H0 H ∧ H a = some (exo a C none) ∧ H0 a = none ∧ DRs K H0 ds ws ∧ R ds es ∧
  ∀ dx us H0' H', JH H0 (er H a) H0' H' → H0' a = none → H' a = some (exo a C (some dx)) → H' dx = some (exd dx (ns.zip us)) → H dx = none → H0' dx = none → ns.length = us.length → DRs K H0' es us → Q .non H'
section
variable {P : Program} {w : World} {K : PySem.W.Frag} {mg : Str → Option Value} {base : Heap} {N ps : List Str} {F : NF} {fI C cc c : Addr} {k : Nat} {R : List D → List D → Prop} {f1 : Str}
theorem startF_start {N : List Str} {vs : List V} (h : vs.length + 1 ≤ N.length) : startF N vs [none] = L2.start N vs := by
  unfold startF L2.start
  have e : N.length - vs.length = (N.length - vs.length - 1) + 1 := by omega
  rw [e, List.replicate_succ]
  simp
/-- def __init__(self, ..): super().__init__(e); self.f1 = e1 -/
theorem fn_okE1 {e e1 : Expr} {p0 p1 ap pos pos2 p3 p4 p5 : Pos} {pl : Sem Bool} (S : SupK P K mg C fI cc c F) (T : OexC K C) (NS : NScope N ps ["__class__"] F.scope) (hN : N[0]? = some ("self" : Str)) (hNc : N[0]? ≠ none)
    (hR : ∀ ds es, R ds es → ds.length + 1 = ps.length) (hb : F.body = [.Expr (.Call (.Attribute (.Call (.Name "super" p0) [] [] p1) "__init__" ap) [e] [] pos) pos2, .Assign [.Attribute (.Name "self" p3) f1 p4] e1 p5])
    (hf1 : PySem.W.findIn K (.ref C) f1 = some none)
    (hks : F.scope.names.lookup ("super" : Str) = some .globalImplicit) (hkc : F.scope.names.lookup ("__class__" : Str) = some .free) (hka : F.scope.names.lookup ("self" : Str) = some .local)
    (hi : ∀ L, interactive (envF F fI L) = false) (hs : ∀ L, swapsWith (.Call (.Attribute (.Call (.Name "super" p0) [] [] p1) "__init__" ap) [e] [] pos) none pos2.line (envF F fI L) = pure false)
    (he : ∀ L, eval (.Call (.Attribute (.Call (.Name "super" p0) [] [] p1) "__init__" ap) [e] [] pos) (envF F fI L) = (do
      let ov ← attributeBase (.Call (.Name "super" p0) [] [] p1) "__init__" (envF F fI L) (eval (.Call (.Name "super" p0) [] [] p1) (envF F fI L))
      standAt ap.atName
      let (f, first) ← holding [ov] (getMethod ov "__init__" pl)
      callWith pos f first (backTo pos (starEach [e] (envF F fI L))) []))
    (hst : ∀ L, starEach [e] (envF F fI L) = (false, eval e (envF F fI L)) :: starEach [] (envF F fI L)) (hs2 : ∀ L, swapsWith e1 (some (.Attribute (.Name "self" p3) f1 p4)) p5.line (envF F fI L) = pure false)
    (body : ∀ (a : Addr) ds es, R ds es → ∀ (A : Around) (outer : List Env) (s : Shared) (H : Hp) (E : XK), Room k (A.deeper (envF F fI s.heap.objs.size)) →
      ∃ z d1, ED (ncx CX0 P w K mg base N F fI A outer s H E) (en N (.ad a :: ds)) e (.str z) ∧ ED (ncx CX0 P w K mg base N F fI A outer s H E) (en N (.ad a :: ds)) e1 d1 ∧ ED (ncx CX0 P w K mg base N F fI A outer s H E) (en N (.ad a :: ds)) (.Name "self" p3) (.ad a) ∧ es = [d1]) {dV kV doc pm ct : Value} {ann : Option Addr} {oc : Value} {od : Option Addr} {osl : Array (Option Value)}
    (lk : K.lookup fI = some ⟨oc, od, .func (PySem.W.fnX F.name F.qual F.params F.body F.scope F.cl dV kV doc pm ann (.ref F.c) ct), osl⟩) :
    FnOk P w K mg base CX0 (k + 1) fI (PySem.W.fnX F.name F.qual F.params F.body F.scope F.cl dV kV doc pm ann (.ref F.c) ct) ps (spE K C [f1] R) := by
  refine ⟨fun vs H Q E hs => ?_, fun A outer s H args us vs Q E hr e0 hbd r hsp => ?_⟩
  · obtain ⟨H0, a, ds, es, ws, rfl, _, _, _, r, q, _⟩ := hs
    rw [List.length_cons, ← DRs.length r]; exact hR ds es q
  obtain ⟨H0, a, ds, es, ws, rfl, s0, ha, h0, r0, q, kk⟩ := hsp
  have hl : ds.length + 1 = ps.length := hR ds es q
  have hlw := DRs.length r0
  have KX : K.In s.heap := e0.mod.kin.keeps fun b o z => (e0.bs b o z).1
  have lim : s.heap.NoLimit := e0.mod.nolimit.keeps fun b o z => (e0.bs b o z).1
  have pre := congrArg List.length NS.pre
  rw [List.length_take, List.length_append] at pre
  simp only [List.length_cons, List.length_nil] at pre
  obtain ⟨cl, cld, csl, hcell⟩ := S.cell
  have cellH : s.heap.IsCell cc (some (.ref C)) := ⟨_, KX _ _ hcell, rfl⟩
  have ccN : H cc = none := by
    have := e0.mod.kin _ _ hcell
    exact (e0.bs _ _ this).2
  have CA : CellsAt F.cl ["__class__"] [none] s.heap H := by
    refine ⟨rfl, fun y c' hc' => ?_, fun x y c' h1 h2 => ?_, fun i y hy => ?_⟩
    · rw [S.fc.1] at hc'
      have : c' = cc := by
        simp only [List.lookup] at hc'
        split at hc'
        · exact (Option.some.inj hc').symm
        · cases hc'
      subst this
      exact ⟨ccN, _, cellH⟩
    · rw [S.fc.1] at h1 h2
      simp only [List.lookup] at h1 h2
      have ex : ∀ z : Str, (z == ("__class__" : Str)) = true → z = ("__class__" : Str) := fun z h => by simpa using h
      split at h1
      · rename_i g1
        split at h2
        · rename_i g2
          rw [ex _ g1, ex _ g2]
        · cases h2
      · cases h1
    · cases i with
      | zero =>
        have : y = ("__class__" : Str) := by simpa using hy.symm
        subst this
        exact ⟨cc, by rw [S.fc.1]; simp [List.lookup], fun v hv => by simp at hv⟩
      | succ i => simp at hy
  refine codeAny_call_function hr.depth (KX _ _ lk) rfl NS.co NS.gen rfl (PySem.W.codeRec_of KX S.cd) (hbd _ _ _ _ ?_)
  refine wpAny_newFunctionEnv NS.nocell (fun ⟨n, _⟩ hy => NS.par n (List.of_mem_zip hy).1) (fun h₁ hns hsb => ⟨lim.fresh _ hsb, ?_⟩) NS.kind
  show codeAny _ _ (.func F.body (envF F fI s.heap.objs.size)) _ _
  refine ks_codeAny_funcAt ?_
  have kp : ∀ b o, s.heap.get? b = some o → h₁.get? b = some o := fun b o z => hsb.extBut b o (Nat.ne_of_lt (Heap.lt_size z)) (Heap.get?_push_of_some _ z)
  have hN1 : (V.ref a :: ws).length + 1 ≤ N.length := by rw [List.length_cons]; omega
  have I : Inv (ncx CX0 P w K mg base N F fI A outer s H E) [] (startF N (.ref a :: ws) [none]) H { s with heap := h₁, toks := s.toks + (ps.zip us).length } := inv_startN NS hr.hd e0 (by rw [List.length_cons, ← hlw]; exact hl) r CA hns kp
  rw [startF_start hN1] at I
  have j0 : J K H0 H (L2.start N (.ref a :: ws)) H0 H (en N (.ad a :: ds)) := j_start s0 (ds := .ad a :: ds) ⟨.ref a, ws, rfl, rfl, r0⟩ (by rw [List.length_cons]; omega)
  obtain ⟨z, d1, b1, b2, b3, rfl⟩ := body a ds es q A outer s H E (hr.deeper _)
  have h00 : (L2.start N (.ref a :: ws))[0]? = some (some (V.ref a)) := by unfold L2.start; simp
  rw [hb]
  refine ks_wpAt_execs_cons (PySem.ks_wpAt_mono (sup_stmt (pl := pl) (R := fun H1 => ∃ G0, JH H0 H G0 H1) S T I h00 hN ha (pa_star (X := ncx CX0 P w K mg base N F fI A outer s H E) (es := [e])) ?_ hks hkc hka NS.kind (hi _) (hs _) (he _) (hst _)) (fun fl s' hz => ?_) fun _ _ z => z)
  · exact ad_cons (X := ncx CX0 P w K mg base N F fI A outer s H E) b1 ad_nil (hst _) H0 H _ H0 H _ j0 fun vs G0 G g rv => ⟨by have := DRs.length rv; simp only [List.length_cons, List.length_nil] at this; omega, g.sB _ _ ha, G0, g⟩
  obtain ⟨rfl, H1, I1, G0, g⟩ := hz
  refine _root_.PySem.wpAt_of_wpAny ?_
  have RP := (pss_cons (ps_ost (X := ncx CX0 P w K mg base N F fI A outer s H E) (f := f1) (p' := p4) (pos := p5) (pe_star (e := .Name "self" p3)) (pe_star (e := e1)) (hs2 _)) pss_nil).run [] s' (L2.start N (.ref a :: ws)) H1 { nx := fun _ H' => Q .non H', rt := Q } I1
    (b2 H0 H _ G0 H1 _ (j0.grow g) fun y L0 L g2 ry => b3 H0 H _ L0 L _ ((j0.grow g).grow g2) fun x M0 M g3 rx => ?_)
  · refine wpAny_mono RP (fun fl s2 hz => ?_) fun _ _ z => z
    have fin : ∀ {σ' : L2.St} {H' : Hp} {v : V} {u : Value}, Inv (ncx CX0 P w K mg base N F fI A outer s H E) [] σ' H' s2 → L2.RelV v u → Q v H' → CE outer P w H s Q u s2 :=
      fun {σ' H' v u} J rv q => ⟨v, H', J.os, J.bare, J.base, J.hok, rv, q⟩
    cases fl with
    | ret u => obtain ⟨v, σ', H', J, rv, q⟩ := hz; exact fin J rv q
    | next => obtain ⟨σ', H', J, q⟩ := hz; exact fin (v := V.non) (u := Value.none) J rfl q
    | brk => obtain ⟨_, _, _, q⟩ := hz; exact q.elim
    | cont => obtain ⟨_, _, _, q⟩ := hz; exact q.elim
  · cases (show x = .ref a from rx)
    have gM : JH H0 H M0 M := (g.trans g2).trans g3
    have M0a : M0 a = none := gM.fr _ _ ha trivial h0
    have Ma : M a = some (exo a C none) := gM.sB _ _ ha
    refine ⟨a, C, rfl, T, hf1, .inl ⟨Ma, fun dx n1 n2 => ?_⟩⟩
    have M0d : M0 dx = none := gM.sh.free n1
    refine kk dx [y] M0 _ ⟨gM.s0, fun b u z => ?_, fun b u z => ?_, fun b u z nt z' => ?_⟩ M0a upd_same (by rw [upd_ne n2]; exact upd_same) (gM.sB.free n1) M0d rfl ⟨y, [], rfl, DR.mono g3.s0 _ _ ry, rfl⟩
    · have hb1 : b ≠ a := fun e => by subst e; rw [M0a] at z; cases z
      have hb2 : b ≠ dx := fun e => by subst e; rw [M0d] at z; cases z
      rw [upd_ne hb1, upd_ne hb2]; exact gM.sh _ _ z
    · have hb1 : b ≠ a := fun e => by subst e; rw [er_same] at z; cases z
      rw [er_ne hb1] at z
      have zM := gM.sB _ _ z
      have hb2 : b ≠ dx := fun e => by subst e; rw [n1] at zM; cases zM
      rw [upd_ne hb1, upd_ne hb2]; exact zM
    · have hb1 : b ≠ a := fun e => by subst e; rw [er_same] at z; cases z
      rw [er_ne hb1] at z
      exact gM.fr _ _ z nt z'
end
end DL
namespace DL
open PySem PySem.Spec PyProof.Rows L2
section
variable {X : Cx} {C fI : Addr} {x : Str} {e : Expr} {es : List Expr} {t : TA} {p pos : Pos}
/-- an own class whose __init__ keeps fields, called: what is made has no context -/
theorem made_own {CX : CXT} {k : Nat} {fd : FuncData} {ps : List Str} {sp : Sp} {pins : List (Addr × Obj)} {σ : L2.St} {H : Hp} {s : Shared} {us : List Value} {vs : List V} {Q : XK} (T : OexC X.K C) (iC : PySem.W.findIn X.K (.ref C) "__init__" = some (some (.ref fI))) (tI : PySem.W.typeIn X.K (.ref fI) = some (.type "function"))
    (F : FnOk X.prog X.w X.K X.mg X.base CX k fI fd ps sp) (hr : Room (k + 1) X.A) (hb : Binds X.K fd ps []) (hx : Passes CX X (fun _ _ _ => False)) (I : Inv X pins σ H s) (rv : Vals vs us) (hz : vs.length ≤ 1000)
    (hq : ∀ a, H a = none → sp (.ref a :: vs) (upd H a (exo a C none)) (fun v H2 => v = .non ∧ ∃ d fs, H2 a = some (exo a C (some d)) ∧ H2 d = some (exd d fs) ∧ H d = none ∧ Q (.ref C) (some d) (upd (L2.del H2 a) d (.xd fs))) (fun _ _ _ => False)) :
    wpAny (model X.prog X.w) X.A (call (.ref C) us) (L2N.MkP X pins σ Q) X.xe s := by
  obtain ⟨hp, g, dr, tk, os⟩ := s
  obtain ⟨_, _, _, _, bm, _, _, _, _, _, _, _, _, _, _, hC, hbm⟩ := T.cls
  let G : Heap := (hp.push (PySem.W.kdv_tup us)).push (PySem.HandSPX.excO C hp.objs.size)
  have grow : ∀ b u, hp.get? b = some u → G.get? b = some u := fun b u z => Heap.get?_push_of_some _ (Heap.get?_push_of_some _ z)
  have ge : G.get? (hp.objs.size + 1) = some (PySem.HandSPX.excO C hp.objs.size) := by show Heap.get? ((hp.push _).push _) _ = _; heap_get
  have J : Inv X pins σ (upd H (hp.objs.size + 1) (exo (hp.objs.size + 1) C none)) ⟨G, g, dr, tk, os⟩ := I.laid (t' := tk) grow (Nat.le_succ _) (exo_ok ge)
  have h0 := hq (hp.objs.size + 1) (I.hok.fresh (Nat.le_succ _))
  have rs : Vals (V.ref (hp.objs.size + 1) :: vs) (Value.ref (hp.objs.size + 1) :: us) := .cons rfl rv
  have bs := hb ⟨G, g, dr, tk, os⟩ (Value.ref (hp.objs.size + 1) :: us) J.kIn (by rw [List.append_nil, ← rs.length]; exact F.len _ _ _ _ h0)
  rw [List.append_nil] at bs
  have small : us.length ≤ sizeLine := by rw [← rv.length, sizeLine_eq]; omega
  have run := F.run _ X.stack ⟨G, g, dr, tk, os⟩ _ ⟨Value.ref (hp.objs.size + 1) :: us, []⟩ _ _ _ _ (hr.make C us []) (J.env0.make C us []) bs rs h0
  refine wpAny_call (PySem.HandSPX.call_own PySem.F.excBase_ValueError (fun Y => PySem.HandSPX.refsVE_contains Y bm hbm) (I.kIn _ _ hC) (PySem.W.looks_findIn I.kIn iC) (fun self => PySem.W.bind_fn I.kIn self tI) small (codeAny_mono run fun r s2 back => ?_))
  match r, back with
  | .error _, back => exact hx pins σ _ _ _ s2 J back
  | .ok (.ret u), ⟨v, H2, os2, bare2, un2, hok2, ru, hv, d, fs, ea, ed, hd, q2⟩ =>
    cases hv
    obtain ⟨G2, g2, d2, t2, os'⟩ := s2
    obtain ⟨t0, G3, J3, k3, n3, e3, f3⟩ := mk_end0 (d2 := d2) (t2 := t2) I (Nat.le_succ _) grow un2 hok2 os2 bare2 ea ed hd
    have ctx : L2N.Zn (.ref C) (some d) ({ cls := .ref C, dict := some d, data := .fields #[.ref t0, .none, .none, .none, .bool false, .none] } : Obj) := ⟨rfl, rfl, fun _ z => by cases z; rfl⟩
    exact ⟨ru, hp.objs.size + 1, _, _, ⟨G3, g2, d2, t2, os'⟩, _, _, some d, rfl, J3, k3, n3, e3, ctx, rfl, rfl, f3, rfl, bare2, raises_own T.exC T.tyC, q2⟩
  | .ok .next, back => exact back.elim
  | .ok .brk, back => exact back.elim
  | .ok .cont, back => exact back.elim
theorem pmk_oexN {CX : CXT} {k : Nat} {fd : FuncData} {ps : List Str} {sp : Sp} (T : OexC X.K C) (iC : PySem.W.findIn X.K (.ref C) "__init__" = some (some (.ref fI))) (tI : PySem.W.typeIn X.K (.ref fI) = some (.type "function"))
    (F : FnOk X.prog X.w X.K X.mg X.base CX k fI fd ps sp) (hr : Room (k + 1) X.A) (hb : Binds X.K fd ps []) (hx : Passes CX X (fun _ _ _ => False)) (hg : Gl X x) (hm : X.mg x = some (.ref C)) (ha : PA X (e :: es) t) (hdb : (x == ("__debug__" : Str)) = false := by decide)
    (he : starEach (e :: es) X.env = (false, eval e X.env) :: starEach es X.env := by rfl) (hpl : (backTo pos (starEach es X.env)).any (·.1) = false := by rfl) : L2N.PMk X (.Call (.Name x p) (e :: es) [] pos) (tMkO C sp [] t) := fun pins s σ H Q I h =>
  wpAny_Call_Name_kw (ld_glob I hg hm (PySem.W.callWith_K (h₀ := X.base) I.ok.mod.kin T.kC (thn (ha.run pos pins s σ H _ I h) fun us s1 ⟨vs, H1, I1, rv, hz, q1⟩ => ⟨I1.kIn, made_own T iC tI F hr hb hx I1 rv hz (fun a na => by have z := q1 a na; rw [List.append_nil] at z; exact z)⟩) he hpl) hdb)
end
section
variable {P : Program} {w : World} {K : PySem.W.Frag} {mg : Str → Option Value} {base : Heap}
theorem _root_.L2.Fun.okXN {x qual : Str} {st : Stmt} {f : Addr} {fd : FuncData} {N ps : List Str} {k : Nat} {sp : Sp} (F : Fun K x qual st f fd) (S : FnScope N ps (defScope st)) (len : ∀ vs H Q E, sp vs H Q E → vs.length = ps.length)
    (hbody : ∀ (cdv : Value) (A : Around) (outer : List Env) (s : Shared) (H : Hp) (vs : List V) (Q : VK) (E : XK), Room k (A.deeper (envOfC qual (defScope st) s.heap.objs.size f cdv)) → sp vs H Q E →
      ∃ t, PSs (cxOf (L2N.CX P w) P w K mg base N qual (defScope st) f cdv A outer s H E) (defBody st) t ∧ t { nx := fun _ H' => Q .non H', rt := Q } (L2.start N vs) H) : FnOk P w K mg base (L2N.CX P w) (k + 1) f fd ps sp := by
  obtain ⟨_, _, _, _, _, _, _, _, _, rfl, lk, hcd⟩ := F.ex
  exact fn_of lk hcd S len fun A outer s H vs Q E hr hs => hbody _ A outer s H vs Q E hr hs
end
/-- the context of a def's body, an error of it told with its context -/
abbrev bxN (P : Program) (w : World) (K : PySem.W.Frag) (mg : Str → Option Value) (base : Heap) (N : List Str) (qual : Str) (st : Stmt) (f : Addr) (cdv : Value) (A : Around) (outer : List Env) (s : Shared) (H : Hp) (E : XK) : Cx :=
  cxOf (L2N.CX P w) P w K mg base N qual (defScope st) f cdv A outer s H E
abbrev Err := PySem.W.Frag → Value → Option Addr → Hp → Prop
/-- .. with fields (the last one first) -/
def errF (cn : Str) (ns : List Str) (ds : List D) : Err := fun K v d H0 => ∃ C x vs, PySem.W.nsIn K mainGlobals cn = some (some (.ref C)) ∧ v = .ref C ∧ d = some x ∧ H0 x = some (.xd (ns.zip vs)) ∧ ns.length = vs.length ∧ DRs K H0 ds vs
/-- e lets out such an error -/
def EG (X : Cx) (ρ : En) (e : Expr) (Θ : Err) : Prop := ∀ B0 B σ H0 H (Q : VK) (W : L2.WX), L2N.Takes X W → J X.K B0 B σ H0 H ρ → (∀ v d H0' H', Θ X.K v d H0' → JH H0 H H0' H' → W v d σ H') → RE X e σ H Q
def XG1 (X : Cx) (st : Stmt) (ρ : En) (Θ : Err) (ρx : En) : Prop := ∀ B0 B σ H0 H Dn (W : L2.WX), L2N.Takes X W → J X.K B0 B σ H0 H ρ → (∀ v d σ' H0' H', Θ X.K v d H0' → J X.K B0 B σ' H0' H' ρx → W v d σ' H') → RS X st Dn σ H
def XG (X : Cx) (sts : List Stmt) (ρ : En) (Θ : Err) (ρx : En) : Prop := ∀ B0 B σ H0 H Dn (W : L2.WX), L2N.Takes X W → J X.K B0 B σ H0 H ρ → (∀ v d σ' H0' H', Θ X.K v d H0' → J X.K B0 B σ' H0' H' ρx → W v d σ' H') → RSs X sts Dn σ H
def ThenG (X : Cx) (rest : List Stmt) (Θ : Err) (ρx : En) : Out → Prop
  | .nx ρ => XG X rest ρ Θ ρx
  | _ => False
/-- an own class of errors with an __init__ that keeps fields -/
structure FnEr (P : Program) (w : World) (K : PySem.W.Frag) (mg : Str → Option Value) (base : Heap) (cn : Str) (ns : List Str) (k : Nat) (R : List D → List D → Prop) : Prop where
  ex : ∃ C fI fd ps, PySem.W.nsIn K mainGlobals cn = some (some (.ref C)) ∧ mg cn = some (.ref C) ∧ OexC K C ∧ PySem.W.findIn K (.ref C) "__init__" = some (some (.ref fI)) ∧ PySem.W.typeIn K (.ref fI) = some (.type "function") ∧ FnOk P w K mg base CX0 k fI fd ps (spE K C ns R) ∧ Binds K fd ps []
section
variable {X : Cx} {ρ ρx : En} {Θ : Err} {e : Expr} {st : Stmt} {rest sa sb : List Stmt} {pos : Pos}
theorem xg_head (h : XG1 X st ρ Θ ρx) : XG X (st :: rest) ρ Θ ρx := fun B0 B σ H0 H Dn W tk j k => ⟨_, pss_cons ps_star pss_star, h B0 B σ H0 H _ W tk j k⟩
theorem xg_cons (h : WS X st ρ (ThenG X rest Θ ρx)) : XG X (st :: rest) ρ Θ ρx := fun B0 B σ H0 H Dn W tk j k => by
  refine ⟨_, pss_cons ps_star pss_star, h B0 B σ H0 H _ j fun o ho => ?_⟩
  cases o with
  | nx ρ' => exact fun σ' H0' H' j' => ho B0 B σ' H0' H' Dn W tk j' k
  | bk ρ' => exact ho.elim
  | ct ρ' => exact ho.elim
  | rt d => exact ho.elim
  | ro c => exact ho.elim
  | rc d cs => exact ho.elim
theorem xg_expr (h : EG X ρ e Θ) (hs : swapsWith e none pos.line X.env = pure false := by rfl) : XG1 X (.Expr e pos) ρ Θ ρ := fun B0 B σ H0 H Dn W tk j k =>
  ⟨_, ps_expr pe_star hs, h B0 B σ H0 H _ W tk j fun v d L0 L t g => k v d σ L0 L t (j.grow g)⟩
/-- raise cn(e, ..), a class whose __init__ keeps fields -/
theorem xg_raiseF {cn : Str} {ns : List Str} {k0 : Nat} {R : List D → List D → Prop} {es : List Expr} {ds fs : List D} {p pos' : Pos} (G : FnEr X.prog X.w X.K X.mg X.base cn ns k0 R) (hr : Room (k0 + 1) X.A) (hg : Gl X cn) (ha : AD X ρ (e :: es) ds) (hR : R ds fs) (hl : ds.length ≤ 1000 := by simp only [List.length_cons, List.length_nil]; decide) (hc : X.calm = true := by rfl) (hdb : (cn == ("__debug__" : Str)) = false := by decide +kernel)
    (he : starEach (e :: es) X.env = (false, eval e X.env) :: starEach es X.env := by rfl) (hpl : (backTo pos (starEach es X.env)).any (·.1) = false := by rfl) :
    XG1 X (.Raise (some (.Call (.Name cn p) (e :: es) [] pos)) none pos') ρ (errF cn ns fs) ρ := fun B0 B σ H0 H Dn W tk j k => by
  obtain ⟨C, fI, fd, ps, hC, hm, T, iC, tI, F, hb⟩ := G.ex
  refine ⟨_, L2N.ps_raise hc tk (pmk_oexN T iC tI F hr hb (fun _ _ _ _ _ _ _ h => h.elim) hg hm pa_star hdb he hpl), ha B0 B σ H0 H _ j fun vs G0 G g r => ⟨by rw [← DRs.length r]; exact hl, fun a na => ?_⟩⟩
  have g0a : G0 a = none := g.sh.free na
  have ee : er (upd G a (exo a C none)) a = G := by
    funext b
    by_cases hb : b = a
    · subst hb; rw [er_same, na]
    · rw [er_ne hb, upd_ne hb]
  rw [List.append_nil]
  refine ⟨G0, a, ds, fs, vs, rfl, fun b u z => ?_, upd_same, g0a, r, hR, fun dx us L0 L gg n1 n2 n3 n4 n5 n6 n7 => ⟨rfl, dx, ns.zip us, n2, n3, ?_, ?_⟩⟩
  · rw [upd_ne (ne_of_none z g0a)]; exact g.sh _ _ z
  · have hda : dx ≠ a := fun z => by subst z; rw [upd_same] at n4; cases n4
    rw [upd_ne hda] at n4; exact n4
  have hda : dx ≠ a := fun z => by subst z; rw [upd_same] at n4; cases n4
  have gd : G dx = none := by rw [upd_ne hda] at n4; exact n4
  rw [ee] at gg
  have s0 : Same L0 (upd L0 dx (.xd (ns.zip us))) := fun b u z => by rw [upd_ne (ne_of_none z n5)]; exact z
  have gN : JH G0 G (upd L0 dx (.xd (ns.zip us))) (upd (L2.del L a) dx (.xd (ns.zip us))) := by
    refine ⟨gg.s0.trans s0, fun b u z => ?_, fun b u z => ?_, fun b u z nt z' => ?_⟩
    · by_cases hb : b = dx
      · subst hb; rw [upd_same] at z ⊢; exact z
      · rw [upd_ne hb] at z ⊢
        have ha2 : b ≠ a := fun q => by subst q; rw [n1] at z; cases z
        rw [L2.del_ne ha2]; exact gg.sh _ _ z
    · have hb : b ≠ dx := fun q => by subst q; rw [gd] at z; cases z
      have ha2 : b ≠ a := fun q => by subst q; rw [na] at z; cases z
      rw [upd_ne hb, L2.del_ne ha2]; exact gg.sB _ _ z
    · have hb : b ≠ dx := fun q => by subst q; rw [gd] at z; cases z
      rw [upd_ne hb]; exact gg.fr _ _ z nt z'
  exact k _ _ σ _ _ ⟨C, dx, us, hC, rfl, rfl, upd_same, n6, DRs.mono s0 _ _ n7⟩ (j.grow (g.trans gN))
end
def spXG (K : PySem.W.Frag) (R : List D → Err → Prop) : Sp := fun vs H _ E => ∃ H0 ds Θ, Same H0 H ∧ DRs K H0 ds vs ∧ R ds Θ ∧ ∀ v d H0' H', Θ K v d H0' → JH H0 H H0' H' → E v d H'
structure FnXG (P : Program) (w : World) (K : PySem.W.Frag) (mg : Str → Option Value) (base : Heap) (x : Str) (k : Nat) (R : List D → Err → Prop) : Prop where
  ex : ∃ f fd ps, FnOk P w K mg base (L2N.CX P w) k f fd ps (spXG K R) ∧ mg x = some (.ref f) ∧ PySem.W.keepIn K (.ref f) = true ∧ Binds K fd ps []
section
variable {P : Program} {w : World} {K : PySem.W.Frag} {mg : Str → Option Value} {base : Heap}
theorem fn_okXG {x qual : Str} {st : Stmt} {f : Addr} {fd : FuncData} {N ps : List Str} {k : Nat} {R : List D → Err → Prop} (F : Fun K x qual st f fd) (S : FnScope N ps (defScope st)) (hR : ∀ ds c, R ds c → ds.length = ps.length)
    (h : ∀ ds c, R ds c → ∀ (cdv : Value) (A : Around) (outer : List Env) (s : Shared) (H : Hp) (E : XK), Room k (A.deeper (envOfC qual (defScope st) s.heap.objs.size f cdv)) →
      ∃ ρx, XG (bxN P w K mg base N qual st f cdv A outer s H E) (defBody st) (en N ds) c ρx) : FnOk P w K mg base (L2N.CX P w) (k + 1) f fd ps (spXG K R) := by
  refine F.okXN S (fun vs H Q E hs => ?_) fun cdv A outer s H vs Q E hr hs => ?_
  · obtain ⟨H0, ds, d, _, r, q, _⟩ := hs
    rw [← DRs.length r]; exact hR ds d q
  · obtain ⟨H0, ds, c, s0, r, q, kk⟩ := hs
    have hN : ds.length ≤ N.length := by
      have h1 := hR ds c q
      have h2 := congrArg List.length S.pre
      rw [List.length_take] at h2
      omega
    obtain ⟨ρx, h0⟩ := h ds c q cdv A outer s H E hr
    obtain ⟨t, h1, h2⟩ := h0 H0 H (L2.start N vs) H0 H { nx := fun _ H' => Q .non H', rt := Q } (fun cls d _ H' => E cls d H') (L2N.takes_of rfl rfl rfl rfl) (j_start s0 r hN) fun v d σ' G0 G t j' => kk v d G0 G t j'.hp
    exact ⟨t, h1, h2⟩
end
section
variable {X : Cx} {ρ ρx : En} {e o : Expr} {es : List Expr} {pos p apos : Pos} {Θ : Err} {ds fds : List D} {ns : List Str} {cn m : Str} {k : Nat} {pl : Sem Bool}
theorem eg_call {x : Str} {R : List D → Err → Prop} (G : FnXG X.prog X.w X.K X.mg X.base x k R) (hr : Room k X.A) (hg : Gl X x) (ha : AD X ρ (e :: es) ds) (hR : R ds Θ)
    (hdb : (x == ("__debug__" : Str)) = false := by decide) (he : starEach (e :: es) X.env = (false, eval e X.env) :: starEach es X.env := by rfl) (hpl : (backTo pos (starEach es X.env)).any (·.1) = false := by rfl) :
    EG X ρ (.Call (.Name x p) (e :: es) [] pos) Θ := fun B0 B σ H0 H Q W tk j k => by
  obtain ⟨f, fd, ps, F, hm, hk, hb⟩ := G.ex
  refine RE.of (pe_callS (E := WE W) F hr hg hm hk hb (fun σ => L2N.passAt tk σ) pa_star hdb he hpl) (ha B0 B σ H0 H _ j fun vs G0 G g r => ?_)
  exact ⟨G0, ds, Θ, g.sh, r, hR, fun v d L0 L t g2 => k v d L0 L t (g.trans g2)⟩
/-- for x in xs: the k-th turn raises -/
theorem xg_for {tg iter : Expr} {body : List Stmt} {α : Type} {zs : List D} (xs : List α) (enc : α → D) (hc : X.calm = true) (hi : ID X ρ tg iter zs) (he : zs = xs.map enc) (I : Nat → En → Prop) (h0 : I 0 ρ) (n : Nat) {y : α} (hn : xs[n]? = some y)
    (hs : ∀ i x ρ', i < n → xs[i]? = some x → I i ρ' → ∃ is ρ'', DG X is tg (enc x) ρ' ρ'' ∧ WSs X body ρ'' (fun o => match o with | .nx r => I (i + 1) r | .ct r => I (i + 1) r | _ => False)) (hx : ∀ ρ', I n ρ' → ∃ is ρ'', DG X is tg (enc y) ρ' ρ'' ∧ XG X body ρ'' Θ ρx)
    (hp : PassesOwn (model X.prog X.w) X.A X.env X.xe) (hf : ∀ x, foldedSetIterable iter X.env x = pure x := by intro _; rfl) : XG1 X (.For tg iter body [] pos) ρ Θ ρx := fun B0 B σ H0 H Dn W tk j kk => by
  subst he
  refine ⟨_, ps_for hp hc pi_star pg_star pss_star hf, hi B0 B σ H0 H _ j fun Jt G0 G g0 ⟨GG, Y, w, hG, hY⟩ => ?_⟩
  have j0 := j.grow g0
  have hnl : n < xs.length := (List.getElem?_eq_some_iff.mp hn).1
  refine for_it w (fun i σ' H1 => i ≤ n ∧ ∃ ρ' L0, I i ρ' ∧ J X.K G0 B σ' L0 H1 ρ') ⟨Nat.zero_le _, ρ, G0, h0, j0.rebase⟩ (fun i σ' H1 _ ⟨_, ρ', L0, _, j1⟩ => hG L0 H1 j1.hp.s0 j1.hp.sh) ?_ ?_
  · rintro i x σ1 H1 H1' hi ⟨hin, ρ1, L0, hI, j1⟩ hy
    have hxl : i < xs.length := by rwa [List.length_map] at hi
    have hxi : xs[i]? = some xs[i] := List.getElem?_eq_getElem hxl
    obtain ⟨L1, g2, rx⟩ := hY i L0 H1 x H1' (enc xs[i]) (by rw [List.getElem?_map, hxi]; rfl) j1.hp.s0 j1.hp.sh hy
    rcases Nat.lt_or_eq_of_le hin with hlt | heq
    · obtain ⟨is, ρ2, hg, hb⟩ := hs i xs[i] ρ1 hlt hxi hI
      refine hg G0 B σ1 L1 H1' x _ (j1.grow g2) rx fun σ2 j2 _ => hb G0 B σ2 L1 H1' _ j2 fun o ho => ?_
      cases o with
      | nx r => exact fun σ3 M0 M j3 => ⟨hlt, r, M0, ho, j3⟩
      | ct r => exact fun σ3 M0 M j3 => ⟨hlt, r, M0, ho, j3⟩
      | bk r => exact ho.elim
      | rt v => exact ho.elim
      | ro c => exact ho.elim
      | rc v cs => exact ho.elim
    · subst heq
      rw [hxi] at hn; cases hn
      obtain ⟨is, ρ2, hg, hb⟩ := hx ρ1 hI
      exact hg G0 B σ1 L1 H1' x _ (j1.grow g2) rx fun σ2 j2 _ => hb G0 B σ2 L1 H1' _ W tk j2 fun v d σ3 M0 M t j3 => kk v d σ3 M0 M t (j0.unbase j3)
  · rintro σ1 H1 ⟨hle, _⟩
    rw [List.length_map] at hle
    omega
end
end DL
namespace DL
open PySem PySem.Spec PyProof.Rows L2
/-- the fields of errors of the class named cn may be read -/
structure Xf (K : PySem.W.Frag) (cn : Str) (ns : List Str) : Prop where
  ex : ∃ C, PySem.W.nsIn K mainGlobals cn = some (some (.ref C)) ∧ XfC K C ∧ ∀ f ∈ ns, PySem.W.findIn K (.ref C) f = some none
/-- what a class object says of an own class of errors -/
def oexD (C : Addr) (cd : ClassData) (sl : Array (Option Value)) : Bool := match cd.mro, sl.toList with
  | .ref C' :: bm, [_, _, _, _, some (.builtin n), _] => decide (C' = C) && (decide (n = "ValueError.__new__") && (!cd.hasDel && (cd.hasDict && PySem.HandSPX.refsVE bm)))
  | _, _ => false
theorem oex_mk {K : PySem.W.Frag} {C : Addr} {dd : Option Addr} {cd : ClassData} {sl : Array (Option Value)} (l : K.lookup C = some ⟨.type "type", dd, .cls cd, sl⟩) (o : oexD C cd sl = true) (sa : PySem.W.findIn K (.ref C) "__setattr__" = some (some (.builtin "object.__setattr__")))
    (ex : PySem.W.subIn K (.ref C) (.type "BaseException") = some true) (ty : PySem.W.typeIn K (.ref C) = some (.type "type")) (kp : PySem.W.keepIn K (.ref C) = true) : OexC K C := by
  refine ⟨?_, sa, ex, ty, kp⟩
  unfold oexD at o
  obtain ⟨nm, bs, mro, nsp, qn, hd, sn, sub, ab, col, del⟩ := cd
  split at o
  · rename_i C' bm k0 k1 k2 k3 n k5 hm hsl
    simp only [Bool.and_eq_true, decide_eq_true_eq, Bool.not_eq_true'] at o
    obtain ⟨rfl, rfl, hdel, hhd, hre⟩ := o
    simp only at hm hdel hhd
    subst hm hdel hhd
    have : sl = #[k0, k1, k2, k3, some (.builtin "ValueError.__new__"), k5] := by rw [← hsl]
    subst this
    exact ⟨nm, qn, nsp, bs, bm, sn, sub, ab, col, dd, k0, k1, k2, k3, k5, l, hre⟩
  · cases o
theorem takes0N {X : Cx} : L2N.Takes X (fun _ _ _ _ => False) := fun _ _ ⟨_, _, _, _, _, _, _, _, _, _, _, _, _, _, _, _, z⟩ => z.elim
section
variable {X : Cx} {ρ ρx : En} {pos : Pos} {Φ : Out → Prop} {cn : Str}
/-- try: .. except xn as n, an error with fields -/
theorem ws_tryF (i : Nat) {body suite : List Stmt} {b0 : Stmt} {n xn : Str} {ns : List Str} {ds : List D} {np pos' : Pos} (hN : X.N.Nodup) (xm : Xm X.K X.mg cn xn) (hg : Gl X xn) (hb : ∀ pn xe, PassesOwn (model X.prog X.w) X.A X.env xe → XG (X.tr pn xe) body ρ (errF cn ns ds) ρx)
    (hs : ∀ a C x oe pn, PySem.W.nsIn X.K mainGlobals cn = some (some (.ref C)) → L2N.Zn (.ref C) (some x) oe → (∃ vs, oe.data = .fields vs) → WSs (X.suite a ((a, oe) :: pn)) (b0 :: suite) (ρx.set i (.sh (.exc a x ns ds))) (Aft i Φ))
    (hi : X.N[i]? = some n := by rfl) (hdb : (xn == ("__debug__" : Str)) = false := by decide +kernel) (hln : X.env.kindOf n = some .local := by rfl) (hst : X.stack = X.env :: X.outer := by rfl) (hf : X.env.frame = some X.env.locals := by rfl) :
    WS X (.Try body [.ExceptHandler (some (.Name xn np)) (some n) (b0 :: suite) pos'] [] [] pos) ρ Φ := fun B0 B σ H0 H Dn j k => by
  obtain ⟨C, D, hC, hD, hex⟩ := xm.ex
  refine ⟨_, L2N.ps_try_as (i := i) (Wout := fun _ _ _ _ => False) (tb := fun W D σ H => ∀ pn xe, L2N.Takes (X.tr pn xe) W → PassesOwn (model X.prog X.w) X.A X.env xe → RSs (X.tr pn xe) body D σ H)
    (ts := fun a cls d D σ H => ∀ oe pn, L2N.Zn cls d oe → (∃ vs, oe.data = .fields vs) → RSs (X.suite a ((a, oe) :: pn)) (b0 :: suite) D σ H) hst hf hN hi hln (show Names X xn (.ref D) from ⟨hg, hdb, .inl hD⟩) takes0N
    (fun W pn xe tk po => ⟨fun pins s σ H D I h => pss_star.run pins s σ H D I (h pn xe tk po)⟩) (fun a oe cls d pn hz hf => ⟨fun pins s σ H D I h => pss_star.run pins s σ H D I (h oe pn hz hf)⟩), ?_⟩
  intro pn xe tk po
  refine hb pn xe po B0 B σ H0 H Dn _ tk j fun v d σ' L0 L t j' => ?_
  obtain ⟨C', x, us, hC', rfl, rfl, hx, hlen, hds⟩ := t
  have hC'' : PySem.W.nsIn X.K mainGlobals cn = some (some (.ref C')) := hC'
  rw [hC] at hC''; cases hC''
  refine ⟨true, hex, fun _ a ha oe pn' hz hfl => ?_, fun z => nomatch z⟩
  refine hs a C x oe pn' hC hz hfl B0 B _ L0 L _ (J.setSh j' (d := .exc a x ns ds) (v := .ref a) ⟨rfl, us, hx, hlen, hds⟩) fun o ho => ?_
  cases o with
  | nx ρ' => exact fun σ'' M0 M j2 => k _ ho _ M0 M (J.setNo j2 i)
  | bk ρ' => exact fun σ'' M0 M j2 => k _ ho _ M0 M (J.setNo j2 i)
  | ct ρ' => exact fun σ'' M0 M j2 => k _ ho _ M0 M (J.setNo j2 i)
  | rt d => exact k _ ho
  | ro c => exact k _ ho
  | rc d cs => exact k _ ho
/-- e.f of an error that a suite holds -/
theorem ed_xfld {a x C : Addr} {oe : Obj} {pn : List (Addr × Obj)} {e : Expr} {f : Str} {ns : List Str} {ds : List D} {d : D} (m : Nat) (xf : Xf X.K cn ns) (hC : PySem.W.nsIn X.K mainGlobals cn = some (some (.ref C))) (hz : L2N.Zn (.ref C) (some x) oe) (hf : ∃ vs, oe.data = .fields vs)
    (he : ED (X.suite a ((a, oe) :: pn)) ρ e (.exc a x ns ds)) (hn : ns[m]? = some f := by rfl) (hd : ds[m]? = some d := by rfl) (hu : (ns.take m).contains f = false := by decide +kernel) (hb : attributeBase e f X.env (eval e X.env) = eval e X.env := by rfl) :
    ED (X.suite a ((a, oe) :: pn)) ρ (.Attribute e f pos) d := fun B0 B σ H0 H Q j k => by
  obtain ⟨C', hC', T, hno⟩ := xf.ex
  rw [hC] at hC'; cases hC'
  refine RE.of (pe_xf T (hno f (List.mem_of_getElem? hn)) hz.zc hf pe_star hb) (he B0 B σ H0 H _ j fun v G0 G g r => ?_)
  obtain ⟨rfl, us, h1, h2, h3⟩ := r
  obtain ⟨v, hv, rv⟩ := DRs.get h3 hd
  exact ⟨rfl, rfl, x, _, v, rfl, g.sh _ _ h1, zip_at hn hu hv, k v G0 G g rv⟩
end
end DL
namespace DL
open PySem PySem.Spec PyProof.Rows L2
section
variable {X : Cx} {ρ ρx : En} {pos : Pos} {Φ : Out → Prop} {cn : Str} {Θ : Err}
theorem ws_tryFS (i : Nat) {body suite : List Stmt} {b0 : Stmt} {n xn : Str} {ns : List Str} {ds : List D} {np pos' : Pos} (hN : X.N.Nodup) (xm : Xm X.K X.mg cn xn) (hg : Gl X xn) (hb : ∀ pn xe, PassesOwn (model X.prog X.w) X.A X.env xe → XG (X.tr pn xe) body ρ (errF cn ns ds) ρ)
    (hs : ∀ a C x oe pn, PySem.W.nsIn X.K mainGlobals cn = some (some (.ref C)) → L2N.Zn (.ref C) (some x) oe → (∃ vs, oe.data = .fields vs) → WSs (X.suite a ((a, oe) :: pn)) (b0 :: suite) (ρ.set i (.sh (.exc a x ns ds))) (Aft i Φ))
    (hi : X.N[i]? = some n := by rfl) (hdb : (xn == ("__debug__" : Str)) = false := by decide +kernel) (hln : X.env.kindOf n = some .local := by rfl) (hst : X.stack = X.env :: X.outer := by rfl) (hf : X.env.frame = some X.env.locals := by rfl) :
    WS X (.Try body [.ExceptHandler (some (.Name xn np)) (some n) (b0 :: suite) pos'] [] [] pos) ρ Φ := ws_tryF i hN xm hg hb hs hi hdb hln hst hf
end
end DL
namespace DL
open PySem PySem.Spec PyProof.Rows L2
def nosE (n : Nat) : En := List.replicate n .no
theorem J.nos {K : PySem.W.Frag} {B0 B H0 H : Hp} {σ : L2.St} {ρ : En} {n : Nat} (j : J K B0 B σ H0 H ρ) (h : ρ.length = n) : J K B0 B σ H0 H (nosE n) := by
  unfold nosE
  have key : ∀ (i : Nat) s, (List.replicate n Sl.no)[i]? = some s → s = .no := fun i s e => by
    rw [List.getElem?_replicate] at e
    split at e
    · exact (Option.some.inj e).symm
    · cases e
  refine ⟨j.hp, by rw [j.len, h, List.length_replicate], fun i s ov h1 _ => ?_, fun i k s s' ov ov' a h1 _ _ _ w _ => ?_⟩
  · rw [key i s h1]; trivial
  · rw [key i s h1] at w; exact w.elim
/-- nothing more is told of the slots -/
theorem xg_no {X : Cx} {sts : List Stmt} {ρ ρ' : En} {Θ : Err} {n : Nat} (h : XG X sts ρ Θ ρ') (hl : ρ'.length = n := by first | rfl | simp) : XG X sts ρ Θ (nosE n) := fun B0 B σ H0 H Dn W tk j k =>
  h B0 B σ H0 H Dn W tk j fun v d σ' H0' H' t j' => k v d σ' H0' H' t (j'.nos hl)
end DL
namespace DL
open PySem PySem.Spec PyProof.Rows L2
/-- a name that ends with no figure -/
def noFig (z : Str) : Prop := ∀ c, z.cps.toList.getLast? = some c → ¬ (48 ≤ c ∧ c ≤ 57)
theorem qNam_fig {ns : List Int} {f : Int} {k : Nat} (h : k < 10) {z : Str} (hz : noFig z) : z ≠ qNam ns f k := fun e => by
  have := qNam_last ns f h
  rw [← e] at this
  exact hz _ this (by omega)
theorem noFig_zz : noFig ("zz" : Str) := fun c h => by
  have e : ("zz" : Str).cps.toList = [122, 122] := by decide +kernel
  rw [e] at h; simp at h; omega
/-- the drawn rows -/
theorem qRws_nm {ns : List Int} {f : Int} {m : Nat} {z : Str} (hm : m ≤ 10) (hz : noFig z) : z ∉ (qRws ns f m).map (·.n) := fun h => by
  obtain ⟨r, hr, e⟩ := List.mem_map.mp h
  unfold qRws at hr
  obtain ⟨k, hk, rfl⟩ := List.mem_map.mp hr
  exact qNam_fig (k := k) (by have := List.mem_range.mp hk; omega) hz e.symm
theorem qRws_libOk {ns : List Int} {f : Int} {m : Nat} (hm : m ≤ 10) : LibOk (qRws ns f m) := by
  refine libOk_cong (cs := farL' ns f 1 0 m) ?_ (fun r hr => ?_) (far_ok ns f 1 0 hm)
  · unfold farL'; rw [List.map_map]; rfl
  · have := (qRws_lil (ns := ns) (f := f) (m := m) r hr).few; omega
end DL
theorem L2H.RoomH.units {k : Nat} {A : PySem.Around} (r : L2H.RoomH k A) : A.units + 64 < PySem.cLine := by have := r.un; omega
namespace DL
open PySem PySem.Spec PySem.Calls PyProof.Rows L2
section
variable {prog : Program} {w : World} {A : Around} {E : Value → Shared → Prop} {s : Shared} {K : PySem.W.Frag} {x D0 : Addr} {ox : Obj} {od : Option Obj}
theorem fnd_cls {C : Addr} {m : Str} {a g : Value} (c : (PySem.W.clsIn K C).isSome = true) (e1 : PySem.W.findIn K (.ref C) m = some (some a)) (e2 : PySem.W.specialIn K a "__get__" = some (some g)) (e3 : PySem.W.takesIn K a = some true) : PySem.W.findObj K C od m = some (.bind g a) := by
  obtain ⟨cd, z⟩ := Option.isSome_iff_exists.mp c
  simp [PySem.W.findObj, z, e1, e2, e3]
theorem cls_exF {Q : Option Value → Shared → Prop} (T : ExcC K D0) (Y : K.In s.heap) (I : PySem.W.InstAt s.heap x ox D0 od) (q : Q (some (.ref D0)) { s with toks := s.toks + 1 }) : wpAny (model prog w) A (getAttr? (.ref x) "__class__") Q E s := by
  have fo : PySem.W.findObj K D0 od "__class__" = some (.bind (.builtin "getset_descriptor.__get__") (.builtin "object.__class__")) := fnd_cls (by obtain ⟨cd, z, _⟩ := PySem.W.any_some T.hd; rw [z]; rfl) T.ha T.hn T.ht
  obtain ⟨hp, gg, dr, tk, os⟩ := s
  have M0 := I.type (M := model prog w)
  have M1 := PySem.W.looks_findIn (M := model prog w) Y T.hg
  have M2 := PySem.W.looks_findIn (M := model prog w) Y T.hk
  have M3 := PySem.W.looks_find (M := model prog w) Y I fo
  have isB : PySem.W.Looks (model prog w) hp (isInstance (.ref x) (.type "BaseException")) true := M0.andThen (PySem.W.looks_subIn Y T.hs)
  have n0 : (false && onTheHeap (Value.builtin "BaseException.__getattribute__")) = false := rfl
  have n1 : (onTheHeap (Value.ref D0) && Value.builtin "BaseException.__getattribute__" == Value.builtin "object.__getattribute__") = false := by rw [show (Value.builtin "BaseException.__getattribute__" == Value.builtin "object.__getattribute__") = false by decide +kernel]; rfl
  unfold getAttr?; unfold getAttrBy?; unfold getAttrBy
  refine wpAny_bind (wpAny_mkText (wpAny_bind (wpAny_attempt (wpAny_holding (wpAny_bind (M0.at (wpAny_bind (M1.at ?_))))))))
  show wpAny _ _ (if (onTheHeap (Value.ref D0) && Value.builtin "BaseException.__getattribute__" == Value.builtin "object.__getattribute__") = true then _ else _) _ _ _
  rw [n1, if_neg Bool.false_ne_true]
  unfold getAttrByItsOwn hookBefore
  refine wpAny_bind ?_
  rw [if_pos (show onTheHeap (Value.ref D0) = true from rfl)]
  refine M2.at ?_; refine wpAny_bind (wpAny_attempt (wpAny_holding ?_))
  unfold callGetattribute
  rw [n0, if_neg Bool.false_ne_true]
  unfold boundAndCalled
  rw [PySem.F.excAttr_ValueError.ga.bind (.ref x)]; refine wpAny_bind (wpAny_pure ?_)
  show wpAny _ _ (call (.builtin "BaseException.__getattribute__") [.ref x, .str "__class__" tk]) _ _ _
  refine wpAny_call (codeAny_call_builtin PySem.F.excAttr_ValueError.ga.plain PySem.F.entry_bexc_ga ?_); refine @PySem.W.check_slot (model prog w) _ _ ⟨hp, gg, dr, tk + 1, os⟩ "BaseException.__getattribute__" "BaseException" "__getattribute__" (.ref x) [.str "__class__" tk] [] _ (by decide +kernel) (by decide +kernel) isB (PySem.F.args_bexc_ga (.ref x) (.str "__class__" tk)) ?_
  unfold Builtin.«object.__getattribute__»
  refine wpAny_bind (wpAny_of_eq (a := ((Value.ref x : Value), [Value.str "__class__" tk])) (by first | rfl | (simp only [slotArgs]; rfl)) ?_); refine wpAny_bind (wpAny_pure (wpAny_bind (M0.at (wpAny_bind (M3.at ?_)))))
  show wpAny _ _ (holding [Value.builtin "object.__class__"] (call (.builtin "getset_descriptor.__get__") [.builtin "object.__class__", .ref x, .ref D0]) >>= ret) _ _ _
  refine wpAny_bind (wpAny_holding (wpAny_call (PySem.W.class_get (s := ⟨hp, gg, dr, tk + 1, os⟩) (ox := ox) (od := od) Y I T.hm ?_))); refine wpAny_pure ?_
  show wpAny _ _ (handedOut (.ref D0)) _ _ _
  rw [PySem.W.handedOut_of (v := .ref D0) rfl]; first | exact wpAny_pure (wpAny_pure q) | exact wpAny_pure q | exact wpAny_pure (wpAny_bind (wpAny_pure (wpAny_pure q)))
theorem kitx_exF (T : ExcC K D0) : PySem.W.KitX K (.ref x) (.ref D0) (fun h => ∃ od, PySem.W.InstAt h x ox D0 od) where
  ty := fun _ _ _ ⟨_, I⟩ => I.type
  it := fun _ _ Y _ => by
    obtain ⟨cd, hc, _⟩ := PySem.W.any_some T.hd
    unfold PySem.W.clsIn at hc; split at hc
    · rename_i c' d' cd' sl' ho; intro A' Q' E' s' k q; unfold isType loadHead; exact wpAny_bind (wpAny_loadPart (k _ _ (Y _ _ ho)) (wpAny_pure q))
    · cases hc
  ne := fun h tp dd its n sl Y htp => by
    obtain ⟨cd, hc, _⟩ := PySem.W.any_some T.hd
    refine Bool.eq_false_iff.mpr fun q => ?_
    obtain rfl : D0 = tp := Value.ref.inj (beq_iff_eq.mp q)
    unfold PySem.W.clsIn at hc; split at hc
    · rename_i c' d' cd' sl' ho; cases (Y _ _ ho).symm.trans htp
    · cases hc
  ca := fun Y ⟨_, I⟩ k => cls_exF T Y I k
/-- isinstance(e, c), e the exception that the suite holds, z where its fields are -/
def rIsF (K : PySem.W.Frag) (D0 a z : Addr) : List V → Hp → VK → Prop := fun xs H Q => ∃ (c : V) (cv : Value) (b : Bool) (fs : List (Str × V)), xs = [.ref a, c] ∧ (∀ u, RelV c u → u = cv) ∧ PySem.W.kitOne K (.ref D0) cv = some b ∧ H z = some (.xd fs) ∧ Q (.bl b) H
theorem call_isF {X : Cx} {a z : Addr} {oe : Obj} {pn : List (Addr × Obj)} (C : ExcC X.K D0) (hz : Zc (.ref D0) (some z) oe) (hf : ∃ vs, oe.data = .fields vs) : CallR (X.suite a ((a, oe) :: pn)) (.builtin "isinstance") (rIsF X.K D0 a z) := by
  intro pins s σ H xs us Q I r h
  obtain ⟨c, cv, b, fs, rfl, hcv, e, ea, q⟩ := h
  cases r with
  | cons rx rr =>
    cases rr with
    | cons rt rr =>
      cases rr; cases rx
      have ec := hcv _ rt
      subst ec
      obtain ⟨hget, _⟩ := I.pin (a, oe) (List.mem_append_left _ List.mem_cons_self)
      obtain ⟨vs, hv⟩ := hf
      have hx : ObjOk X.prog X.w H s.heap z (.xd fs) := I.hok z _ ea
      obtain ⟨mA, hns, hr⟩ := hx
      obtain ⟨od, ho, hl⟩ := lookIn_ns hns
      have J : ∃ od, PySem.W.InstAt s.heap a oe D0 od := ⟨some od, hget, hz.1, by unfold PySem.W.notCls; rw [hv] <;> rfl, by rw [hz.2]; exact ho⟩
      exact PySem.W.kia_one (kitx_exF C) I.kIn J e (fun z => nomatch z) fun tk => ⟨.bl b, H, I.kept (t' := tk) fun _ _ z => z, rfl, q⟩
structure Xe (K : PySem.W.Frag) (cn : Str) : Prop where
  ex : ∃ C, PySem.W.nsIn K mainGlobals cn = some (some (.ref C)) ∧ L2.ExcC K C
/-- isinstance(e, c), e a caught error with fields -/
theorem ed_isEF {X : Cx} {ρ : En} {cn : Str} {a x C : Addr} {oe : Obj} {pn : List (Addr × Obj)} {e : Expr} {c : Str} {b : Bool} {ns : List Str} {ds : List D} {p1 p2 pos : Pos} (xc : Xe X.K cn) (xi : Xi X.K X.mg cn c b) (hC : PySem.W.nsIn X.K mainGlobals cn = some (some (.ref C))) (hz : L2N.Zn (.ref C) (some x) oe) (hf : ∃ vs, oe.data = .fields vs) (hg : Gl X "isinstance") (hm : X.mg "isinstance" = none) (hgc : Gl X c)
    (he : ED (X.suite a ((a, oe) :: pn)) ρ e (.exc a x ns ds)) (hdc : (c == ("__debug__" : Str)) = false := by decide +kernel)
    (h1 : starEach [e, .Name c p2] X.env = (false, eval e X.env) :: starEach [.Name c p2] X.env := by rfl) (h2 : starEach [.Name c p2] X.env = (false, eval (.Name c p2) X.env) :: starEach [] X.env := by rfl) (h3 : (backTo pos (starEach [.Name c p2] X.env)).any (·.1) = false := by rfl) :
    ED (X.suite a ((a, oe) :: pn)) ρ (.Call (.Name "isinstance" p1) [e, .Name c p2] [] pos) (.bl b) := fun B0 B σ H0 H Q j k => by
  obtain ⟨C1, hC1, hx⟩ := xc.ex
  obtain ⟨C2, D2, hC2, hD, hk⟩ := xi.ex
  rw [hC] at hC1 hC2; cases hC1; cases hC2
  refine RE.of (pe_callB (call_isF hx hz.zc hf) hg hm bb_isinstance (pa_cons pe_star (pa_cons (pe_glob (v := .ref D2) hgc hD rfl hdc) pa_nil h2) h1) (by decide) (by decide) h1 h3) (he B0 B σ H0 H _ j fun v G0 G g r => ?_)
  obtain ⟨rfl, vs, h5, h6, h7⟩ := r
  exact ⟨.ref D2, .ref D2, b, _, rfl, fun u h => h, hk, g.sh _ _ h5, k _ G0 G g rfl⟩
end
end DL
namespace DL
open PySem PySem.Spec PyProof.Rows L2
local instance (priority := 2000) keyBEq6 : BEq Key := instBEqOfDecidableEq
def badNm : List Str := ["", "a234567890123", "Ab", "a_b", "9a", "a-", "aB1", "a."]
theorem badNm_no : ∀ x ∈ badNm, nameB x = false ∧ x.length ≤ 1000 := by
  have : badNm.all (fun x => !nameB x && decide (x.length ≤ 1000)) = true := by decide +kernel
  intro x hx
  have h := List.all_eq_true.mp this x hx
  simp only [Bool.and_eq_true, Bool.not_eq_true', decide_eq_true_eq] at h
  exact h
def badAt (d : Int) : Str := badNm.getD (d % 8).toNat ""
theorem badAt_no (d : Int) : nameB (badAt d) = false ∧ (badAt d).length ≤ 1000 := by
  refine badNm_no _ ?_
  unfold badAt
  have h1 := Int.emod_nonneg d (b := 8) (by decide)
  have h2 := Int.emod_lt_of_pos d (b := 8) (by decide)
  have hi : (d % 8).toNat < badNm.length := by show _ < 8; omega
  rw [List.getD_eq_getElem?_getD, List.getElem?_eq_getElem hi]
  exact List.getElem_mem hi
theorem at_getI {α : Type} {xs : List α} {f : α → D} {i : Int} {a : α} (h : 0 ≤ i ∧ i < xs.length) : atI (xs.map f) i = some (f (xs.getD i.toNat a)) := by
  have hi : i.toNat < xs.length := by omega
  refine atI_nn h.1 ?_
  rw [List.getElem?_map, List.getElem?_eq_getElem hi, List.getD_eq_getElem?_getD, List.getElem?_eq_getElem hi]
  rfl
end DL
namespace DL
open PySem PySem.Spec PyProof.Rows L2
def sRep (x : Str) (n : Nat) : Str := ⟨(List.replicate n x.cps).foldl (· ++ ·) #[]⟩
theorem rep_size (a : Array Nat) : ∀ (n : Nat) (acc : Array Nat), ((List.replicate n a).foldl (· ++ ·) acc).size = acc.size + n * a.size
  | 0, acc => by simp
  | n + 1, acc => by
    rw [List.replicate_succ, List.foldl_cons, rep_size a n, Array.size_append, Nat.succ_mul]
    omega
theorem sRep_len (x : Str) (n : Nat) : (sRep x n).length = n * x.length := by
  show ((List.replicate n x.cps).foldl (· ++ ·) #[]).size = _
  rw [rep_size]; simp; rfl
section
variable {X : Cx}
theorem op_mulS : OpR X (binaryOp .Mult) (fun x y H Q => ∃ (i : Str) (n : Nat), x = .str i ∧ y = .int (n : Int) ∧ 2 ≤ n ∧ n ≤ 1000 ∧ 0 < i.length ∧ i.length ≤ 1000 ∧ Q (.str (sRep i n)) H) := by
  intro pins s σ H x y v u Q I rx ry h
  obtain ⟨i, n, rfl, rfl, h2, hn, h0, hi, q⟩ := h
  obtain ⟨t, rfl⟩ := rx
  obtain ⟨t', rfl⟩ := ry
  have e1 : ((n : Int) == 1 || i.length == 0) = false := by
    rw [Bool.or_eq_false_iff]
    exact ⟨beq_eq_false_iff_ne.mpr (by omega), beq_eq_false_iff_ne.mpr (by omega)⟩
  have hm : i.length * n ≤ 1000 * 1000 := Nat.mul_le_mul hi hn
  refine PySem.P.mul_str ?_ (fun _ _ => ?_) (fun _ _ => ?_) ?_
  · rw [Bool.or_eq_false_iff]
    exact ⟨decide_eq_false (by omega), decide_eq_false (by omega)⟩
  · intro z
    have : (i.length : Int) ≤ (2 ^ 63 - 1) / (n : Int) := by
      rw [Int.le_ediv_iff_mul_le (by omega)]
      have : ((i.length * n : Nat) : Int) ≤ 1000000 := by omega
      rw [Int.natCast_mul] at this
      omega
    omega
  · unfold Builtin.Str.tooLong
    refine decide_eq_false ?_
    rw [sizeLine_eq, Int.toNat_natCast]
    omega
  · rw [if_neg (by omega), if_neg (by rw [e1]; decide), Int.toNat_natCast]
    exact ⟨by rw [show (⟨List.foldl (fun x1 x2 => x1 ++ x2) #[] (List.replicate n i.cps)⟩ : Str).length = n * i.length from sRep_len i n, sizeLine_eq, Nat.mul_comm]; omega, .str (sRep i n), H, I.tok _, ⟨_, rfl⟩, q⟩
theorem b2_mulS {i : Str} {n : Nat} (h2 : 2 ≤ n) (hn : n ≤ 1000) (h0 : 0 < i.length) (hi : i.length ≤ 1000) : B2 X .Mult (.str i) (.int (n : Int)) (.str (sRep i n)) := ⟨_, op_mulS, o2_keep _ (fun _ => rfl) fun _ _ _ _ _ _ r1 r2 q => ⟨i, n, r1, r2, h2, hn, h0, hi, q⟩⟩
end
end DL
namespace DL
open PySem PySem.Spec PyProof.Rows L2
def dgW (w : Str) : Str := if Txt.startswith w "-" = true then cutS w (some 1) none else w
def isIB (w : Str) : Bool := (Txt.isdigit (dgW w) && decide ((dgW w).length ≤ 30)) && (decide (w = ("0" : Str)) || !decide (sgn ((dgW w).cps.toList.getD 0 0) = ("0" : Str)))
theorem Rz.dgW {i : Int} (h : Rz i) : DL.dgW (stI i) = dgI i := by
  unfold DL.dgW
  rw [h.starts]
  by_cases hs : i < 0
  · rw [if_pos (decide_eq_true hs)]; exact cut_min hs
  · rw [if_neg (by simpa using hs)]; exact stI_pos (by omega)
theorem Rz.isI {i : Int} (h : Rz i) : isIB (stI i) = true := by
  unfold isIB
  rw [h.dgW, h.head, Bool.and_true, Bool.and_eq_true]
  exact ⟨h.rd.isdigit, decide_eq_true h.dlen⟩
theorem RdI.rz {i : Int} (h : RdI i) : Rz i := ⟨by have := h.b; omega⟩
inductive RdW : List Str → Option (List Int) → Prop where
  | ok (ns : List Int) (h : ∀ i ∈ ns, Rz i) : RdW (ns.map stI) (some ns)
  | bad (ws : List Str) (w : Str) (hw : w ∈ ws) (h : isIB w = false) : RdW ws none
def optT : Option (List Int) → D
  | some ns => .tup (ns.map .int)
  | none => .non
theorem RdW.all {ws : List Str} {o : Option (List Int)} (h : RdW ws o) : (ws.map isIB).all id = o.isSome := by
  cases h with
  | ok ns hz =>
    rw [List.all_map, List.all_map]
    exact List.all_eq_true.mpr fun i hi => (hz i hi).isI
  | bad ws w hw h =>
    cases e : (ws.map isIB).all id with
    | false => rfl
    | true =>
      have := List.all_eq_true.mp e (isIB w) (List.mem_map.mpr ⟨w, hw, rfl⟩)
      rw [h] at this; cases this
/-- words of which it is known -/
def Kn (w : Str) : Prop := (∃ i, Rz i ∧ w = stI i) ∨ isIB w = false
inductive NmBad (n : Int) (dn : List Nm) : List Str → Prop where
  | a (ws : List Str) (o : Option (List Int)) (r : RdW (ws.drop 2) o) (h : ws.length ≠ 3 ∨ ws.headD "" ≠ "name" ∨ o = none) : NmBad n dn ws
  | b (nm : Str) (i : Int) (hi : Rz i) (h : ¬ (lastN dn < i ∧ i < n) ∨ nameB nm = false ∨ nm ∈ dn.map (·.2)) : NmBad n dn ["name", nm, stI i]
inductive DvBad (n : Int) : List Str → Prop where
  | a (ws : List Str) (o : Option (List Int)) (r : RdW (ws.drop 2) o) (h : ws.length ≠ 7 ∨ ws.headD "" ≠ "device" ∨ o = none) : DvBad n ws
  | b (v : Dev) (hz : ∀ i ∈ ([v.g, v.a, v.b, v.w, v.l] : List Int), Rz i) (h : devB n v = false) : DvBad n (wV v)
inductive FsBad : List Str → Prop where
  | a (ws : List Str) (o : Option (List Int)) (r : RdW (ws.drop 1) o) (h : ws.length ≠ 2 ∨ ws.headD "" ≠ "nets" ∨ o = none) : FsBad ws
  | b (i : Int) (hi : Rz i) (h : ¬ (0 ≤ i ∧ i ≤ 200)) : FsBad (wN i)
structure XBad (n : Int) (N : List Nm) (V : List Dev) (ws : List Str) : Prop where
  nm : V = [] → NmBad n N ws
  dv : V.length < 200 → DvBad n ws
structure WsL (ws : List Str) : Prop where
  ne : ws ≠ []
  few : ws.length ≤ 9
  ok : ∀ w ∈ ws, WOk w
theorem WsL.len {ws : List Str} (h : WsL ws) : (lnW ws).length ≤ 400 := by
  have h0 := join_len " " ws
  have h1 := sumL_le (k := 41) (zs := ws) fun w hw => (h.ok w hw).n
  have := lens.2.2.2.1
  rw [this] at h0
  unfold lnW
  have : 41 * ws.length ≤ 41 * 9 := Nat.mul_le_mul_left _ h.few
  have := h.few
  omega
noncomputable def txW (W : List (List Str)) : Str := Str.join "\n" (W.map lnW)
/-- what stands behind the first line -/
def tlX (N : List Nm) (V : List Dev) (ww : List Str) (rr : List (List Str)) : List (List Str) := (N.map wQ ++ V.map wV) ++ ww :: rr
theorem tlX_len (N : List Nm) (V : List Dev) (ww : List Str) (rr : List (List Str)) : (tlX N V ww rr).length = N.length + V.length + 1 + rr.length := by unfold tlX; simp; omega
structure XTx (n : Int) (N : List Nm) (V : List Dev) (ww : List Str) (rr : List (List Str)) : Prop where
  t : TxOk n N V
  asc : N.Pairwise (fun p q => p.1 < q.1)
  bad : XBad n N V ww
  w : WsL ww
  r : ∀ ws ∈ rr, WsL ws
  l : rr.length ≤ 250
theorem TxOk.wl {n : Int} {N : List Nm} {V : List Dev} (t : TxOk n N V) {ws : List Str} (h : ws ∈ wsC n N V) : WsL ws := by
  obtain ⟨a, b, c⟩ := t.ws h
  exact ⟨a, by omega, c⟩
theorem XTx.all {n : Int} {N : List Nm} {V : List Dev} {ww : List Str} {rr : List (List Str)} (x : XTx n N V ww rr) : ∀ ws ∈ wN n :: tlX N V ww rr, WsL ws := fun ws h => by
  unfold tlX at h
  rcases List.mem_cons.mp h with rfl | h
  · exact x.t.wl (by unfold wsC; exact List.mem_cons_self)
  · rcases List.mem_append.mp h with h | h
    · exact x.t.wl (by unfold wsC; exact List.mem_cons_of_mem _ h)
    · rcases List.mem_cons.mp h with rfl | h
      · exact x.w
      · exact x.r ws h
theorem XTx.few {n : Int} {N : List Nm} {V : List Dev} {ww : List Str} {rr : List (List Str)} (x : XTx n N V ww rr) : (wN n :: tlX N V ww rr).length ≤ 1500 := by
  rw [List.length_cons, tlX_len]
  have := x.t.ok.nl; have := x.t.ok.vl; have := x.l
  omega
theorem join_app (s : Str) : ∀ {a b : List Str}, a ≠ [] → b ≠ [] → Str.join s (a ++ b) = Str.join s a ++ s ++ Str.join s b
  | [], _, h, _ => absurd rfl h
  | [x], y :: b, _, _ => rfl
  | [x], [], _, h => absurd rfl h
  | x :: y :: a, b, _, hb => by
    have ih := join_app s (a := y :: a) (b := b) (by simp) hb
    show x ++ s ++ Str.join s (y :: a ++ b) = x ++ s ++ Str.join s (y :: a) ++ s ++ Str.join s b
    rw [ih]
    simp only [app_assoc]
theorem ln_sfx {p : Str} {a : List Str} {w : Str} (ha : a ≠ []) (h : p = lnW a ++ (" " : Str)) : p ++ w = lnW (a ++ [w]) := by
  unfold lnW at h ⊢
  rw [h, join_app _ ha (by simp)]; rfl
theorem ln_inf {p q : Str} {a b : List Str} {w : Str} (ha : a ≠ []) (hb : b ≠ []) (h : p = lnW a ++ (" " : Str)) (h2 : q = (" " : Str) ++ lnW b) : p ++ w ++ q = lnW (a ++ [w] ++ b) := by
  rw [ln_sfx ha h, h2]
  unfold lnW
  rw [join_app _ (a := a ++ [w]) (by simp) hb]
  simp only [app_assoc]
def badIL : List Str := ["+5", "007", "-0", "1.5", "", "x", sRep "1" 31, "--2", "-", "5x", ("-" : Str) ++ sRep "9" 31, "00"]
def badIw (d : Int) : Str := badIL.getD (d % 12).toNat ""
def wokB (w : Str) : Bool := (!(TL.tl w).contains 32 && !(TL.tl w).contains 10) && decide (w.length ≤ 41)
theorem wok_of {w : Str} (h : wokB w = true) : WOk w := by
  unfold wokB at h
  rw [Bool.and_eq_true, Bool.and_eq_true, decide_eq_true_iff] at h
  refine ⟨fun m => ?_, fun m => ?_, h.2⟩
  · have h1 := h.1.1
    rw [List.contains_iff_mem.mpr m] at h1; cases h1
  · have h1 := h.1.2
    rw [List.contains_iff_mem.mpr m] at h1; cases h1
theorem badIL_no : badIL.all (fun w => !isIB w && wokB w) = true := by decide +kernel
theorem badI_no (d : Int) : isIB (badIw d) = false ∧ WOk (badIw d) := by
  have h : badIw d ∈ badIL := by
    unfold badIw
    have hl : (d % 12).toNat < badIL.length := by show _ < 12; omega
    rw [List.getD_eq_getElem?_getD, List.getElem?_eq_getElem hl]
    exact List.getElem_mem hl
  have := List.all_eq_true.mp badIL_no _ h
  rw [Bool.and_eq_true] at this
  exact ⟨by simpa using this.1, wok_of this.2⟩
theorem badAt_w (d : Int) : WOk (badAt d) := by
  have h : badAt d ∈ badNm := by
    unfold badAt
    have hl : (d % 8).toNat < badNm.length := by show _ < 8; omega
    rw [List.getD_eq_getElem?_getD, List.getElem?_eq_getElem hl]
    exact List.getElem_mem hl
  have h2 : badNm.all wokB = true := by decide +kernel
  exact wok_of (List.all_eq_true.mp h2 _ h)
theorem stI_lit : stI 0 = ("0" : Str) ∧ stI 1 = ("1" : Str) ∧ stI (-1) = ("-1" : Str) ∧ stI (-5) = ("-5" : Str) := by decide +kernel
theorem kc {w : Str} {ws : List Str} (a : Kn w) (b : ∀ v ∈ ws, Kn v) : ∀ v ∈ w :: ws, Kn v := List.forall_mem_cons.mpr ⟨a, b⟩
theorem wz : ∀ w ∈ ([] : List Str), WOk w := fun _ h => by cases h
theorem wc {w : Str} {ws : List Str} (a : WOk w) (b : ∀ v ∈ ws, WOk v) : ∀ v ∈ w :: ws, WOk v := List.forall_mem_cons.mpr ⟨a, b⟩
theorem dgW_if (w : Str) : (if Txt.startswith w "-" = true then D.str (cutS w (some 1) none) else D.str w) = D.str (dgW w) := by unfold dgW; split <;> rfl
theorem cutS_le (w : Str) (a b : Option Int) : (cutS w a b).length ≤ w.length := by
  have e : (cutS w a b).length = (cutS w a b).cps.toList.length := by rw [Array.length_toList]; rfl
  have e2 : w.length = w.cps.toList.length := by rw [Array.length_toList]; rfl
  rw [e, e2]
  unfold cutS
  show ((w.cps.toList.drop _).take _).length ≤ _
  rw [List.length_take, List.length_drop]
  omega
theorem dgW_len (w : Str) : (dgW w).length ≤ w.length := by
  unfold dgW; split
  · exact cutS_le _ _ _
  · exact Nat.le_refl _
theorem isI_if {w : Str} (h : (Txt.isdigit (dgW w) && decide ((dgW w).length ≤ 30)) = true) : isIB w = (decide (w = ("0" : Str)) || !decide (sgn ((dgW w).cps.toList.getD 0 0) = ("0" : Str))) := by unfold isIB; rw [h, Bool.true_and]
theorem isI_no {w : Str} (h : (Txt.isdigit (dgW w) && decide ((dgW w).length ≤ 30)) = false) : isIB w = false := by unfold isIB; rw [h, Bool.false_and]
theorem at_hd {w : Str} (h : Txt.isdigit w = true) : atI w.cps.toList 0 = some (w.cps.toList.getD 0 0) := by
  unfold Txt.isdigit at h
  rw [Bool.and_eq_true, decide_eq_true_iff] at h
  have hl : 0 < w.cps.toList.length := by rw [Array.length_toList]; exact h.1
  exact atI_nat (j := 0) (by rw [List.getD_eq_getElem?_getD, List.getElem?_eq_getElem hl]; rfl)
theorem RdW.some {ws : List Str} {ns : List Int} (h : RdW ws (some ns)) : ws = ns.map stI ∧ ∀ i ∈ ns, Rz i := by
  cases h with
  | ok ns hz => exact ⟨rfl, hz⟩
/-- lines that are wrong, and where -/
inductive PX : List (List Str) → Int → Prop where
  | first (w0 : List Str) (W : List (List Str)) (h : FsBad w0) (hw : ∀ ws ∈ w0 :: W, WsL ws) (hl : (w0 :: W).length ≤ 1500) : PX (w0 :: W) 1
  | at (n : Int) (N : List Nm) (V : List Dev) (ww : List Str) (rr : List (List Str)) (x : XTx n N V ww rr) : PX (wN n :: tlX N V ww rr) (((2 : Nat) : Int) + ((N.length + V.length : Nat) : Int))
theorem PX.ok {W : List (List Str)} {k : Int} (h : PX W k) : W ≠ [] ∧ (∀ ws ∈ W, WsL ws) ∧ W.length ≤ 1500 := by
  cases h with
  | first w0 W h hw hl => exact ⟨by simp, hw, hl⟩
  | «at» n N V ww rr x => exact ⟨by simp, x.all, x.few⟩
theorem WsL.lens {ws : List Str} (h : WsL ws) : ∀ w ∈ ws, w.length ≤ 50 := fun w hw => by have := (h.ok w hw).n; omega
end DL
namespace DL
open PySem PySem.Spec PyProof.Rows L2
section
variable {X : Cx}
/-- an expression as a statement -/
theorem ws_exprD {ρ : En} {e : Expr} {pos : Pos} {d : D} {Φ : Out → Prop} (h : ED X ρ e d) (hΦ : Φ (.nx ρ)) (hs : swapsWith e none pos.line X.env = pure false := by rfl) : WS X (.Expr e pos) ρ Φ := fun B0 B σ H0 H Dn j k =>
  ⟨_, ps_expr pe_star hs, h B0 B σ H0 H _ j fun v G0 G g r => k _ hΦ _ _ _ (j.grow g)⟩
end
end DL
namespace DL
open PySem PySem.Spec PyProof.Rows L2
def difB (xs : List Str) : Bool := decide (((ddK (xs.map kS)).length : Int) = (xs.length : Int))
def ptsB (xs : List Str) : Bool := (xs.map nameB).all id && difB xs
def bdvB (v : BDev) : Bool := decide (v.k ∈ (["n", "p"] : List Str)) && ((v.ns.map nameB).all id && (decide (1 ≤ v.w) && decide (1 ≤ v.l)))
def bsuB (u : BUse) : Bool := nameB u.n && (u.N.map nameB).all id
structure BSz (b : Blk) : Prop where
  n : b.n.length ≤ sizeLine
  p : ∀ x ∈ b.P, x.length ≤ sizeLine
  v : ∀ v ∈ b.V, ∀ x ∈ v.ns, x.length ≤ sizeLine
  u : ∀ u ∈ b.U, u.n.length ≤ sizeLine ∧ ∀ x ∈ u.N, x.length ≤ sizeLine
  few : b.P.length ≤ 1000 ∧ b.V.length ≤ 1000 ∧ b.U.length ≤ 1000
  fu : ∀ u ∈ b.U, u.N.length ≤ 1000
theorem BkOk.sz {b : Blk} (ok : BkOk b) : BSz b := ⟨nm_size ok.n, fun x h => nm_size (ok.p x h), fun v hv x hx => nm_size ((ok.v v hv).2.1 x hx), fun u hu => ⟨nm_size (ok.u u hu).1, fun x hx => nm_size ((ok.u u hu).2 x hx)⟩,
  ⟨by have := ok.few; omega, by have := ok.few; omega, by have := ok.few; omega⟩, fun u hu => by have := ok.fu u hu; omega⟩
theorem l1 : ("a" : Str).length ≤ 1000 ∧ ("b" : Str).length ≤ 1000 ∧ ("c" : Str).length ≤ 1000 ∧ ("q" : Str).length ≤ 1000 ∧ ("zz" : Str).length ≤ 1000 := by decide +kernel
theorem BSz.nm {b : Blk} (h : BSz b) {n : Str} (hn : n.length ≤ 1000) : BSz ⟨n, b.P, b.V, b.U⟩ := ⟨by rw [sizeLine_eq]; show n.length ≤ _; omega, h.p, h.v, h.u, h.few, h.fu⟩
theorem BSz.pt {b : Blk} (h : BSz b) {P : List Str} (hp : ∀ x ∈ P, x.length ≤ sizeLine) (hl : P.length ≤ 1000) : BSz ⟨b.n, P, b.V, b.U⟩ := ⟨h.n, hp, h.v, h.u, ⟨hl, h.few.2.1, h.few.2.2⟩, h.fu⟩
theorem BSz.dv {b : Blk} (h : BSz b) {V : List BDev} (hv : ∀ v ∈ V, ∀ x ∈ v.ns, x.length ≤ sizeLine) (hl : V.length ≤ 1000) : BSz ⟨b.n, b.P, V, b.U⟩ := ⟨h.n, h.p, hv, h.u, ⟨h.few.1, hl, h.few.2.2⟩, h.fu⟩
end DL
namespace DL
open PySem PySem.Spec PyProof.Rows L2
section
variable {X : Cx} {ρ ρx : En} {Θ : Err} {e : Expr} {st : Stmt} {rest sa sb : List Stmt} {pos : Pos}
theorem xg_ifP {c : Expr} {Ψ : Bool → En → Prop} (hc : TP X ρ c Ψ) (h1 : ∀ ρ', Ψ true ρ' → XG X sa ρ' Θ ρx) (h2 : ∀ ρ', ¬ Ψ false ρ') : XG1 X (.If c sa sb pos) ρ Θ ρx := fun B0 B σ H0 H Dn W tk j kk => by
  refine ⟨_, ps_if pt_star pss_star pss_star, hc B0 B σ H0 H _ j fun b ρ' H0' H' w j1 => ?_⟩
  cases b with
  | true => exact iteT (h1 ρ' w B0 B σ H0' H' Dn W tk j1 kk)
  | false => exact (h2 ρ' w).elim
theorem xg_forX {tg iter : Expr} {body : List Stmt} {α U γ : Type} {zs : List D} (xs : List α) (enc : α → D) (hc : X.calm = true) (hi : ID X ρ tg iter zs) (he : zs = xs.map enc) (G : Nat → γ → U → List (Nat × Sl)) (V : En → U) (P : Nat → γ → Prop) (g0 : γ) (n : Nat) {y : α} (hn : xs[n]? = some y) (hρ : upds ρ (G 0 g0 (V ρ)) = ρ) (h0 : P 0 g0)
    (hs : ∀ i x g u, i < n → xs[i]? = some x → P i g → ∃ is ρ'', DG X is tg (enc x) (upds ρ (G i g u)) ρ'' ∧ WSs X body ρ'' (fun o => match o with | .nx r => ∃ g', upds ρ (G (i + 1) g' (V r)) = r ∧ P (i + 1) g' | .ct r => ∃ g', upds ρ (G (i + 1) g' (V r)) = r ∧ P (i + 1) g' | _ => False))
    (hx : ∀ g u, P n g → ∃ is ρ'', DG X is tg (enc y) (upds ρ (G n g u)) ρ'' ∧ XG X body ρ'' Θ ρx) (hp : PassesOwn (model X.prog X.w) X.A X.env X.xe) (hf : ∀ x, foldedSetIterable iter X.env x = pure x := by intro _; rfl) : XG1 X (.For tg iter body [] pos) ρ Θ ρx := by
  refine xg_for xs enc hc hi he (fun i r => ∃ g, (∃ u, upds ρ (G i g u) = r) ∧ P i g) ⟨g0, ⟨_, hρ⟩, h0⟩ n hn (fun i x r hin hxi hI => ?_) (fun r hI => ?_) hp hf
  · obtain ⟨g, ⟨u, rfl⟩, p⟩ := hI
    obtain ⟨is, r2, h1, h2⟩ := hs i x g u hin hxi p
    refine ⟨is, r2, h1, ws_mono h2 fun o ho => ?_⟩
    cases o with
    | nx r => obtain ⟨g', e1, e2⟩ := ho; exact ⟨g', ⟨_, e1⟩, e2⟩
    | ct r => obtain ⟨g', e1, e2⟩ := ho; exact ⟨g', ⟨_, e1⟩, e2⟩
    | bk r => exact ho
    | rt v => exact ho
    | ro c => exact ho
    | rc v cs => exact ho
  · obtain ⟨g, ⟨u, rfl⟩, p⟩ := hI
    exact hx g u p
end
end DL
namespace DL
open PySem PySem.Spec PyProof.Rows L2
structure WsM (ws : List Str) : Prop where
  ne : ws ≠ []
  few : ws.length ≤ 12
  ok : ∀ w ∈ ws, WOk w
theorem WsM.len {ws : List Str} (h : WsM ws) : (lnW ws).length ≤ 504 := ln_len12 h.ok h.few
theorem WsM.sz {ws : List Str} (h : WsM ws) : ∀ w ∈ ws, w.length ≤ sizeLine := fun w hw => by have := (h.ok w hw).n; rw [sizeLine_eq]; omega
theorem txM_split {W : List (List Str)} (hne : W ≠ []) (h : ∀ ws ∈ W, WsM ws) : Txt.split (txW W) "\n" = W.map lnW := by
  unfold txW
  rw [← TL.join_eq]
  refine TL.split_join sep_tl.2 (by decide +kernel) (by simpa using hne) fun p hp => ?_
  obtain ⟨ws, hw, rfl⟩ := List.mem_map.mp hp
  exact ln_free (h ws hw).ok
theorem txM_room {W : List (List Str)} (h : ∀ ws ∈ W, WsM ws) (hl : W.length ≤ 1300) : sumL (W.map lnW) + (W.map lnW).length * ("\n" : Str).length ≤ 700000 := by
  have h1 := sumL_le (k := 504) (zs := W.map lnW) fun z hz => by
    obtain ⟨ws, hw, rfl⟩ := List.mem_map.mp hz
    exact (h ws hw).len
  rw [List.length_map] at h1 ⊢
  have := lens.2.2.2.2.2
  rw [this]
  have : 504 * W.length ≤ 504 * 1300 := Nat.mul_le_mul_left _ hl
  omega
theorem txM_len {W : List (List Str)} (h : ∀ ws ∈ W, WsM ws) (hl : W.length ≤ 1300) : (txW W).length ≤ 700000 := Nat.le_trans (join_len _ _) (txM_room h hl)
theorem txM_ne {W : List (List Str)} (h : 2 ≤ W.length) : txW W ≠ "" := fun e => by
  match W, h with
  | a :: b :: r, _ =>
    have h1 : txW (a :: b :: r) = lnW a ++ ("\n" : Str) ++ Str.join "\n" ((b :: r).map lnW) := rfl
    have h2 := congrArg Str.length (h1.symm.trans e)
    rw [app_len, app_len, lens.2.2.2.2.2, show ("" : Str).length = 0 by decide +kernel] at h2
    omega
theorem txM_if {W : List (List Str)} (h : ∀ ws ∈ W, WsM ws) (h2 : 2 ≤ W.length) : (if (!decide (txW W = ("" : Str))) = true then D.lst ((Txt.split (txW W) "\n").map .str) else D.lst []) = D.lst ((W.map lnW).map .str) := by
  rw [decide_eq_false (txM_ne h2), txM_split (fun e => by rw [e] at h2; simp at h2) h]; rfl
theorem txM_enum (W : List (List Str)) : enumK 1 ((W.map lnW).map .str) = (List.range W.length).map fun (i : Nat) => D.tup [.int (((1 : Nat) : Int) + (i : Int)), .str (lnW (W.getD i []))] := by
  refine List.ext_getElem? fun i => ?_
  by_cases h : i < W.length
  · unfold enumK
    rw [List.getElem?_zipWith, List.length_map, List.length_map, List.getElem?_range h, List.getElem?_map, List.getElem?_map, List.getElem?_map, List.getElem?_range h, List.getElem?_eq_getElem h]
    have e : W.getD i [] = W[i] := by rw [List.getD_eq_getElem?_getD, List.getElem?_eq_getElem h]; rfl
    show some (D.tup [D.int (((1 : Nat) : Int) + (i : Int)), .str (lnW (W[i]))]) = some (D.tup [D.int (((1 : Nat) : Int) + (i : Int)), .str (lnW (W.getD i []))])
    rw [e]
  · rw [List.getElem?_eq_none (by rw [enumK_len, List.length_map, List.length_map]; omega), List.getElem?_eq_none (by rw [List.length_map, List.length_range]; omega)]
structure CurOk (s : BLs) : Prop where
  ok : ∀ c ∈ s.c.toList, BkOk c ∧ c.n ∉ nmsB (libB s.D)
  few : s.D.length ≤ 60
def nwB (s : BLs) (n : Str) : Bool := !hasK (keyB (libB (s.D ++ s.c.toList))) (.inr n) && decide (((keyB (libB (s.D ++ s.c.toList))).length : Int) < 60)
inductive TkBad (s : BLs) : List Str → Prop where
  | blk (n : Str) (P : List Str) (h : nwB s n = false ∨ nameB n = false ∨ ptsB P = false) : TkBad s ("block" :: n :: P)
  | dev (k g e o a b : Str) (q : Option (List Int)) (r : RdW [a, b] q) (h : s.c = none ∨ usO s.c ≠ [] ∨ q = none ∨ ∃ w l, q = some [w, l] ∧ bdvB ⟨k, g, e, o, w, l⟩ = false) : TkBad s ["device", k, g, e, o, a, b]
  | use (n : Str) (N : List Str) (h : n ∉ nmsB (libB s.D) ∨ (N.length : Int) ≠ cntB ptB (libB s.D) n ∨ bsuB ⟨n, N⟩ = false) : TkBad s ("use" :: n :: N)
  | no (w : Str) (ws : List Str) (h1 : w ≠ "block" ∨ ws = []) (h2 : w ≠ "device" ∨ ws.length ≠ 6) (h3 : w ≠ "use" ∨ ws = []) : TkBad s (w :: ws)
/-- what stands in a text with a wrong line -/
def tlS (ls : List Ln) (ww : List Str) (rr : List (List Str)) : List (List Str) := ls.map Ln.ws ++ ww :: rr
structure XTb (ls : List Ln) (ww : List Str) (rr : List (List Str)) : Prop where
  ok : ∀ (i : Nat) l, ls[i]? = some l → LOk (runL (ls.take i)) l
  cur : CurOk (runL ls)
  bad : TkBad (runL ls) ww
  w : WsM ww
  r : ∀ ws ∈ rr, WsM ws
  l : ls.length + rr.length ≤ 1290
  two : 1 ≤ ls.length + rr.length
theorem LOk.wm {s : BLs} {l : Ln} (h : LOk s l) : WsM l.ws := ⟨h.w.ok.1, h.w.ok.2.1, h.w.ok.2.2⟩
theorem XTb.all {ls : List Ln} {ww : List Str} {rr : List (List Str)} (x : XTb ls ww rr) : ∀ ws ∈ tlS ls ww rr, WsM ws := fun ws h => by
  unfold tlS at h
  rcases List.mem_append.mp h with h | h
  · obtain ⟨l, hl, rfl⟩ := List.mem_map.mp h
    obtain ⟨i, hi⟩ := List.getElem?_of_mem hl
    exact (x.ok i l hi).wm
  · rcases List.mem_cons.mp h with rfl | h
    · exact x.w
    · exact x.r ws h
theorem tlS_len (ls : List Ln) (ww : List Str) (rr : List (List Str)) : (tlS ls ww rr).length = ls.length + 1 + rr.length := by unfold tlS; simp; omega
theorem XTb.few {ls : List Ln} {ww : List Str} {rr : List (List Str)} (x : XTb ls ww rr) : (tlS ls ww rr).length ≤ 1300 ∧ 2 ≤ (tlS ls ww rr).length := by
  rw [tlS_len]; have := x.l; have := x.two; omega
inductive PXs : List (List Str) → Int → Prop where
  | mk (ls : List Ln) (ww : List Str) (rr : List (List Str)) (x : XTb ls ww rr) : PXs (tlS ls ww rr) ((1 : Nat) + (ls.length : Int))
theorem PXs.ok {W : List (List Str)} {k : Int} (h : PXs W k) : (∀ ws ∈ W, WsM ws) ∧ W.length ≤ 1300 ∧ 2 ≤ W.length ∧ 0 ≤ k ∧ k ≤ 1300 := by
  obtain ⟨ls, ww, rr, x⟩ := h
  exact ⟨x.all, x.few.1, x.few.2, by omega, by have := x.l; omega⟩
theorem rz0 : Rz 0 ∧ Rz 1 := ⟨⟨by decide⟩, ⟨by decide⟩⟩
theorem wm_of {ws : List Str} (h1 : ws ≠ []) (h2 : ws.length ≤ 12) (h : ∀ w ∈ ws, WOk w) : WsM ws := ⟨h1, h2, h⟩
theorem lits83 : (WOk "" ∧ WOk "block" ∧ WOk "blocks" ∧ WOk "zz" ∧ WOk "a" ∧ WOk "b" ∧ WOk "c" ∧ WOk "y" ∧ WOk "1") ∧ (WOk "0" ∧ WOk "q" ∧ WOk "n" ∧ WOk "device" ∧ WOk "Device" ∧ WOk "use" ∧ WOk "zzzz" ∧ WOk "m60") :=
  ⟨⟨wok_of (by decide +kernel), wok_of (by decide +kernel), wok_of (by decide +kernel), wok_of (by decide +kernel), wok_of (by decide +kernel), wok_of (by decide +kernel), wok_of (by decide +kernel), wok_of (by decide +kernel), wok_of (by decide +kernel)⟩,
   ⟨wok_of (by decide +kernel), wok_of (by decide +kernel), wok_of (by decide +kernel), wok_of (by decide +kernel), wok_of (by decide +kernel), wok_of (by decide +kernel), wok_of (by decide +kernel), wok_of (by decide +kernel)⟩⟩
theorem sw_app (p x : Str) : Txt.startswith (p ++ x) p = true := by
  unfold Txt.startswith
  rw [Bool.and_eq_true]
  refine ⟨decide_eq_true (by rw [app_len]; omega), ?_⟩
  change ((p ++ x).cps.extract 0 (0 + p.length) == p.cps) = true
  rw [beq_iff_eq]
  refine Array.ext' ?_
  rw [Array.toList_extract, cps_app]
  have : 0 + p.length = p.cps.toList.length := by rw [Array.length_toList]; exact Nat.zero_add _
  rw [this, List.extract_eq_drop_take, Nat.sub_zero, List.drop_zero, List.take_left]
theorem sw_no {x p : Str} {a b : Nat} {r s : List Nat} (hx : x.cps.toList = a :: r) (hp : p.cps.toList = b :: s) (h : a ≠ b) : Txt.startswith x p = false := by
  rw [Bool.eq_false_iff]
  intro z
  unfold Txt.startswith at z
  rw [Bool.and_eq_true] at z
  have h1 : x.cps.extract 0 (0 + p.length) = p.cps := by
    have := z.2
    change (x.cps.extract 0 (0 + p.length) == p.cps) = true at this
    exact eq_of_beq this
  have hl : 0 + p.length = s.length + 1 := by
    have : p.length = p.cps.toList.length := by rw [Array.length_toList]; rfl
    rw [this, hp]; simp
  have h2 := congrArg Array.toList h1
  rw [hl, Array.toList_extract, hx, hp, List.extract_eq_drop_take] at h2
  simp at h2
  exact h h2.1
theorem ln_two (a b : Str) (r : List Str) : lnW (a :: b :: r) = a ++ (" " : Str) ++ lnW (b :: r) := rfl
theorem ls_app83 (W U : List (List Str)) : ((W ++ U).map lnW).map D.str = (W.map lnW).map D.str ++ (U.map lnW).map D.str := by rw [List.map_append, List.map_append]
theorem cutTk83 (l : List D) {k : Int} (h : 0 ≤ k) : cutD l none (some k) = l.take k.toNat := by
  unfold cutD
  have h1 : HT.sIx l.length 0 none = 0 := rfl
  have h2 : HT.sIx l.length l.length (some k) = min k.toNat l.length := by
    unfold HT.sIx
    simp only
    split <;> omega
  rw [h1, h2]
  rw [List.drop_zero, Nat.sub_zero]
  rcases Nat.le_total k.toNat l.length with q | q
  · rw [Nat.min_eq_left q]
  · rw [Nat.min_eq_right q, List.take_of_length_le q, List.take_of_length_le (Nat.le_refl _)]
theorem ls_take83 (W : List (List Str)) {k : Int} (h : 0 ≤ k) : cutD ((W.map lnW).map D.str) none (some k) = ((W.take k.toNat).map lnW).map D.str := by rw [cutTk83 _ h, List.map_take, List.map_take]
theorem ls_drop83 (W : List (List Str)) {k : Int} (h : 0 ≤ k) : cutD ((W.map lnW).map D.str) (some k) none = ((W.drop k.toNat).map lnW).map D.str := by rw [cutDrop _ h, List.map_drop, List.map_drop]
theorem add_ok {a b : Str} (h : a.length ≤ 100) (h2 : b.length ≤ 41) : a.length + b.length ≤ sizeLine := by rw [sizeLine_eq]; omega
theorem add_ok2 {a b c : Str} (h : a.length ≤ 100) (h2 : b.length ≤ 41) (h3 : c.length ≤ 100) : (a ++ b).length + c.length ≤ sizeLine := by rw [app_len, sizeLine_eq]; omega
end DL
namespace DL
open PySem PySem.Spec PyProof.Rows L2
structure KdN (K : PySem.W.Frag) (w : World) (mg : Str → Option Value) (x z : Str) : Prop where
  ex : ∃ p es n, mg x = some (.ref p) ∧ KDict K w p es n ∧ PySem.W.nsIn K p z = some none
structure KdNo (K : PySem.W.Frag) (w : World) (mg : Str → Option Value) (x : Str) (zs : List Str) : Prop where
  get : ∀ z ∈ zs, KdN K w mg x z
theorem kdn_mk {K : PySem.W.Frag} {w : World} {mg : Str → Option Value} {x z : Str} {p : Addr} {es : Array DictEntry} {n : Nat} (h : mg x = some (.ref p)) (l : K.lookup p = some ⟨.type "dict", none, .dict es n, #[]⟩) (q : PySem.W.KeysLit w.params es.toList) (v : PySem.W.nsIn K p z = some none) (lo : (p == sysModules) = false) : KdN K w mg x z := ⟨p, es, n, h, ⟨l, q, lo⟩, v⟩
section
variable {X : Cx} {ρ : En} {d : D}
theorem td_notInKdN {x z : Str} {e : Expr} {p2 pos : Pos} (h : KdN X.K X.w X.mg x z) (hg : Gl X x) (he : ED X ρ e (.str z)) (hm : behindInMarks .NotIn (.Name x p2) = false := by first | exact nomark _ | rfl) (hd : (x == ("__debug__" : Str)) = false := by decide) : TD X ρ (.Compare e [.NotIn] [.Name x p2] pos) true := fun B0 B σ H0 H Q j kk => by
  obtain ⟨p, es, n, h1, h2, h3⟩ := h
  refine RT.of (pt_cmpR (op_notIn_kd h2) pe_star (pe_glob (v := .ref p) hg h1 rfl hd) hm) (he B0 B σ H0 H _ j fun y G0 G g1 r1 => ?_)
  cases (show y = .str z from r1)
  exact ⟨z, none, rfl, rfl, h3, true, rfl, kk G0 G g1⟩
theorem tp_orT {a b : Expr} {pos : Pos} {Ψ : Bool → En → Prop} (h : TD X ρ a true) (hΨ : Ψ true ρ) : TP X ρ (.BoolOp .Or [a, b] pos) Ψ := fun B0 B σ H0 H Q j kk =>
  ⟨_, (pw_or pt_star (pw_or1 pt_star)).pt, h B0 B σ H0 H _ j fun H0' H' g => iteT (kk true ρ H0' H' hΨ (j.grow g))⟩
end
end DL
namespace DL
open PySem PySem.Spec PyProof.Rows L2
def unkB (w : Str) (n : Nat) : Bool := !(([("cell", 1), ("shape", 5), ("label", 4), ("place", 8)] : List (Str × Nat)).any fun e => decide (w = e.1) && decide (n = e.2))
def unkW : List Str := ["", "cells", "Shape", "#", "library"]
inductive FBad (s : DSt) : LPart → Prop where
  | full (n : Str) (h : 60 ≤ s.all.length) : FBad s (.c n)
  | same (n : Str) (x : DCel) (hc : s.c = some x) (hl : s.all.length < 60) (h : n = x.n) : FBad s (.c n)
  | non (p : LPart) (hp : decide (p.wd = ("cell" : Str)) = false) (h : s.c = none) : FBad s p
  | ord (p : LPart) (x : DCel) (hp : decide (p.wd = ("cell" : Str)) = false) (hc : s.c = some x) (hx : x.w ∈ loT) (h : decide (((loT.idxOf p.wd : Nat) : Int) < ((loT.idxOf x.w : Nat) : Int)) = true) : FBad s p
  | new (v : Pla) (x : DCel) (hc : s.c = some x) (hx : x.w ∈ loT) (h : (.inr v.n : Key) ∉ keyD s.Z) : FBad s (.p v)
inductive NoPart : List Str → Prop where
  | unk (w : Str) (ws : List Str) (h : w ∈ unkW) : NoPart (w :: ws)
  | cnt (w : Str) (ws : List Str) (k : Nat) (hw : w ∈ loT) (h : unkB w ws.length = true) : NoPart (w :: ws)
  | cel (n : Str) (h : nameB n = false) : NoPart ["cell", n]
  | shp (l a b c e : Str) (o : Option (List Int)) (r : RdW [a, b, c, e] o) (h : o = none ∨ ∃ i j k m, o = some [i, j, k, m] ∧ shB (l, ⟨i, j, k, m⟩) = false) : NoPart ["shape", l, a, b, c, e]
  | lab (n l a b : Str) (o : Option (List Int)) (r : RdW [a, b] o) (h : o = none ∨ ∃ i j, o = some [i, j] ∧ labB ⟨n, l, i, j⟩ = false) : NoPart ["label", n, l, a, b]
  | pla (n t a b c e f g : Str) (o : Option (List Int)) (r : RdW [t, a, b, c, e, f, g] o) (h : o = none ∨ ∃ i j k l m q z, o = some [i, j, k, l, m, q, z] ∧ plaB ⟨n, i, j, k, l, m, q, z⟩ = false) : NoPart ["place", n, t, a, b, c, e, f, g]
inductive LBad (s : DSt) : List Str → Prop where
  | no (ws : List Str) (h : NoPart ws) : LBad s ws
  | fit (p : LPart) (ok : p.Ok) (h : FBad s p) : LBad s p.ws
theorem DOk.wm {s : DSt} {p : LPart} (h : DOk s p) : WsM p.ws := ⟨p.ne, Nat.le_trans p.few (by decide), LPart.wok h.ok⟩
structure XLb (ls : List LPart) (ww : List Str) (rr : List (List Str)) : Prop where
  ok : ∀ (i : Nat) l, ls[i]? = some l → DOk (runD (ls.take i)) l
  bad : LBad (runD ls) ww
  w : WsM ww
  r : ∀ ws ∈ rr, WsM ws
  l : ls.length + rr.length ≤ 990
  two : 1 ≤ ls.length + rr.length
def tlL (ls : List LPart) (ww : List Str) (rr : List (List Str)) : List (List Str) := ls.map LPart.ws ++ ww :: rr
theorem XLb.all {ls : List LPart} {ww : List Str} {rr : List (List Str)} (x : XLb ls ww rr) : ∀ ws ∈ tlL ls ww rr, WsM ws := fun ws h => by
  unfold tlL at h
  rcases List.mem_append.mp h with h | h
  · obtain ⟨l, hl, rfl⟩ := List.mem_map.mp h
    obtain ⟨i, hi⟩ := List.getElem?_of_mem hl
    exact (x.ok i l hi).wm
  · rcases List.mem_cons.mp h with rfl | h
    · exact x.w
    · exact x.r ws h
theorem tlL_len (ls : List LPart) (ww : List Str) (rr : List (List Str)) : (tlL ls ww rr).length = ls.length + 1 + rr.length := by unfold tlL; simp; omega
theorem XLb.few {ls : List LPart} {ww : List Str} {rr : List (List Str)} (x : XLb ls ww rr) : (tlL ls ww rr).length ≤ 1300 ∧ 2 ≤ (tlL ls ww rr).length := by
  rw [tlL_len]; have := x.l; have := x.two; omega
theorem tlL_at {ls : List LPart} {ww : List Str} {rr : List (List Str)} {i : Nat} {l : LPart} (h : ls[i]? = some l) : (tlL ls ww rr).getD i [] = l.ws := by
  unfold tlL
  rw [List.getD_eq_getElem?_getD, List.getElem?_append_left (by rw [List.length_map]; exact (List.getElem?_eq_some_iff.mp h).1), List.getElem?_map, h]; rfl
theorem tlL_end (ls : List LPart) (ww : List Str) (rr : List (List Str)) : (tlL ls ww rr).getD ls.length [] = ww := by
  unfold tlL
  rw [List.getD_eq_getElem?_getD, List.getElem?_append_right (by simp)]; simp
inductive PXl : List (List Str) → Int → Prop where
  | mk (ls : List LPart) (ww : List Str) (rr : List (List Str)) (x : XLb ls ww rr) : PXl (tlL ls ww rr) ((1 : Nat) + (ls.length : Int))
theorem PXl.ok {W : List (List Str)} {k : Int} (h : PXl W k) : (∀ ws ∈ W, WsM ws) ∧ W.length ≤ 1300 ∧ 2 ≤ W.length ∧ 0 ≤ k ∧ k ≤ 1300 := by
  obtain ⟨ls, ww, rr, x⟩ := h
  exact ⟨x.all, x.few.1, x.few.2, by omega, by have := x.l; omega⟩
theorem runD_all : ∀ ps : List LPart, (runD ps).all.length ≤ ps.length := by
  refine snoc_ind (P := fun ps => (runD ps).all.length ≤ ps.length) (Nat.le_refl _) (fun l p ih => ?_)
  rw [runD_snoc, List.length_append]
  have : ∀ s : DSt, (stD s p).all.length ≤ s.all.length + 1 := fun s => by
    cases p with
    | c n => unfold stD; show (s.all ++ [_]).length ≤ _; rw [List.length_append]; exact Nat.le_refl _
    | s v => unfold stD DSt.all; cases s.c <;> simp
    | l v => unfold stD DSt.all; cases s.c <;> simp
    | p v => unfold stD DSt.all; cases s.c <;> simp
  have := this (runD l)
  show _ ≤ l.length + 1
  omega
theorem runD_Z (ps : List LPart) : (runD ps).Z.length ≤ ps.length := by
  have := runD_all ps
  have h2 : (runD ps).Z.length ≤ (runD ps).all.length := by unfold DSt.all; rw [List.length_append]; omega
  omega
theorem XLb.zl {ls : List LPart} {ww : List Str} {rr : List (List Str)} (x : XLb ls ww rr) (i : Nat) : (runD (ls.take i)).Z.length ≤ 1000 := by
  have h := runD_Z (ls.take i)
  rw [List.length_take] at h
  have := x.l
  omega
inductive LXl : Str → Int → Prop where
  | ok (rs : List Rw) (t : TxR rs) : LXl (txR rs) 0
  | bad (W : List (List Str)) (k : Int) (h : PXl W k) : LXl (txW W) k
theorem txR_w (rs : List Rw) : txR rs = txW ((prts rs).map LPart.ws) := by
  unfold txR txW
  rw [← prts_ln, List.map_map]; rfl
def lwW (d : Rw) : Str := if d.P = [] then (if d.L = [] then (if d.S = [] then "cell" else "shape") else "label") else "place"
theorem lwW_in (d : Rw) : lwW d ∈ loT := by
  unfold lwW loT
  split
  · split
    · split <;> simp
    · simp
  · simp
theorem runD_at (ds : List Rw) (d : Rw) : runD (prts (ds ++ [d])) = ⟨ds, some ⟨d.n, d.S, d.L, d.P, lwW d⟩⟩ := by
  rw [prts_snoc]
  unfold runD
  rw [List.foldl_append]
  unfold prtR
  rw [List.foldl_cons, List.foldl_append, List.foldl_append]
  have e : stD ((prts ds).foldl stD ⟨[], none⟩) (.c d.n) = ⟨ds, some ⟨d.n, [], [], [], "cell"⟩⟩ := by
    have h := runD_full ds
    unfold runD at h
    show (⟨_, _⟩ : DSt) = _
    rw [h]
  rw [e, run_S, run_L, run_P]
  simp only [List.nil_append]
  rfl
theorem libOk_snoc {rs : List Rw} {d : Rw} (h : LibOk rs) (c : CanL (libL rs) d) : LibOk (rs ++ [d]) := fun k x hx => by
  by_cases hk : k < rs.length
  · rw [List.getElem?_append_left hk] at hx
    rw [List.take_append_of_le_length (Nat.le_of_lt hk)]
    exact h k x hx
  · have hl := (List.getElem?_eq_some_iff.mp hx).1
    rw [List.length_append] at hl
    have : k = rs.length := by simp at hl; omega
    subst this
    rw [List.getElem?_append_right (Nat.le_refl _), Nat.sub_self] at hx
    cases hx
    rw [List.take_left]; exact c
/-- a cell behind others -/
theorem txR_snoc {rs : List Rw} {d : Rw} (t : TxR rs) (hl : rs.length ≤ 59) (c : CanL (libL rs) d) (ok : CelOk d.n d.S d.L d.P) (hs : ∀ s ∈ d.S, WnS s) (hv : ∀ v ∈ d.L, WnL v) (hp : ∀ v ∈ d.P, WnP v) (sz : d.S.length ≤ 100 ∧ d.L.length ≤ 100 ∧ d.P.length ≤ 100) : TxR (rs ++ [d]) := by
  refine ⟨libOk_snoc t.ok c, fun r hr => ?_, fun p hpm => ?_, fun r hr => ?_, by rw [List.length_append]; show rs.length + 1 ≤ 60; omega⟩
  · rcases List.mem_append.mp hr with hr | hr
    · exact t.cel r hr
    · rw [List.mem_singleton.mp hr]; exact ok
  · rw [prts_snoc] at hpm
    rcases List.mem_append.mp hpm with h | h
    · exact t.pt p h
    · unfold prtR at h
      simp only [List.mem_cons, List.mem_append, List.mem_map] at h
      rcases h with rfl | ⟨s, h, rfl⟩ | ⟨v, h, rfl⟩ | ⟨v, h, rfl⟩
      · exact ok.n
      · exact hs s h
      · exact hv v h
      · exact hp v h
  · rcases List.mem_append.mp hr with hr | hr
    · exact t.sz r hr
    · rw [List.mem_singleton.mp hr]; exact sz
theorem cut_exR : ∀ (rs : List Rw), TxR rs → ∀ k : Nat, 1 ≤ k → k ≤ (prts rs).length → ∃ ds d, TxR (ds ++ [d]) ∧ prts (ds ++ [d]) = (prts rs).take k ∧ ∀ x ∈ ds ++ [d], ∃ y ∈ rs, x.n = y.n := by
  intro rs
  refine snoc_ind (P := fun rs => TxR rs → ∀ k : Nat, 1 ≤ k → k ≤ (prts rs).length → ∃ ds d, TxR (ds ++ [d]) ∧ prts (ds ++ [d]) = (prts rs).take k ∧ ∀ x ∈ ds ++ [d], ∃ y ∈ rs, x.n = y.n) (fun _ k h1 h2 => by simp [prts] at h2; omega) (fun rs r ih t k h1 h2 => ?_) rs
  have tp : TxR rs := by have := t.take rs.length; rwa [List.take_left] at this
  have hrm : r ∈ rs ++ [r] := by simp
  have hri : (rs ++ [r])[rs.length]? = some r := by rw [List.getElem?_append_right (Nat.le_refl _), Nat.sub_self]; rfl
  have hc := t.ok rs.length r hri
  rw [List.take_left] at hc
  have okr := t.cel r hrm
  have szr := t.sz r hrm
  have hfew := t.few
  rw [List.length_append] at hfew
  have hpt : ∀ p ∈ prtR r, p.Ok := fun p hp => t.pt p (by rw [prts_snoc]; exact List.mem_append_right _ hp)
  rw [prts_snoc] at h2 ⊢
  by_cases hi : k ≤ (prts rs).length
  · obtain ⟨ds, d, a1, a2, a3⟩ := ih tp k h1 hi
    refine ⟨ds, d, a1, ?_, fun x hx => ?_⟩
    · rw [List.take_append_of_le_length hi]; exact a2
    · obtain ⟨y, hy, e⟩ := a3 x hx
      exact ⟨y, List.mem_append_left _ hy, e⟩
  · obtain ⟨j, rfl⟩ : ∃ j, k = (prts rs).length + (j + 1) := ⟨k - (prts rs).length - 1, by omega⟩
    refine ⟨rs, ⟨r.n, r.S.take j, r.L.take (j - r.S.length), r.P.take (j - r.S.length - r.L.length)⟩, txR_snoc tp (by simp at hfew; omega) ⟨hc.new, fun p h => hc.old p (List.mem_of_mem_take h), ?_, fun p h => hc.bd p (List.mem_of_mem_take h)⟩ ⟨okr.n, fun s h => okr.s s (List.mem_of_mem_take h), fun s h => okr.l s (List.mem_of_mem_take h), fun s h => okr.p s (List.mem_of_mem_take h)⟩ (fun s h => hpt (.s s) ?_) (fun s h => hpt (.l s) ?_) (fun s h => hpt (.p s) ?_) ?_, ?_, fun x hx => ?_⟩
    · have := hc.few
      simp only [List.length_take]; omega
    · unfold prtR; exact List.mem_cons_of_mem _ (List.mem_append_left _ (List.mem_map.mpr ⟨s, List.mem_of_mem_take h, rfl⟩))
    · unfold prtR; exact List.mem_cons_of_mem _ (List.mem_append_right _ (List.mem_append_left _ (List.mem_map.mpr ⟨s, List.mem_of_mem_take h, rfl⟩)))
    · unfold prtR; exact List.mem_cons_of_mem _ (List.mem_append_right _ (List.mem_append_right _ (List.mem_map.mpr ⟨s, List.mem_of_mem_take h, rfl⟩)))
    · simp only [List.length_take]; omega
    · have e0 : (prts rs ++ prtR r).take ((prts rs).length + (j + 1)) = prts rs ++ (prtR r).take (j + 1) := by
        rw [List.take_append, List.take_of_length_le (Nat.le_add_right _ _), Nat.add_sub_cancel_left]
      rw [prts_snoc, e0]
      unfold prtR
      rw [List.take_succ_cons, List.take_append, List.take_append, List.length_map, List.length_map, List.map_take, List.map_take, List.map_take]
    · rcases List.mem_append.mp hx with hx | hx
      · exact ⟨x, List.mem_append_left _ hx, rfl⟩
      · rw [List.mem_singleton.mp hx]; exact ⟨r, hrm, rfl⟩
theorem pxl_at {ds : List Rw} {d : Rw} (t : TxR (ds ++ [d])) (hl : (prts (ds ++ [d])).length ≤ 900) {ww : List Str} {rr : List (List Str)} (hw : WsM ww) (hb : LBad ⟨ds, some ⟨d.n, d.S, d.L, d.P, lwW d⟩⟩ ww) (hr : ∀ ws ∈ rr, WsM ws) (hrl : rr.length ≤ 60) : PXl ((prts (ds ++ [d])).map LPart.ws ++ ww :: rr) ((1 : Nat) + ((prts (ds ++ [d])).length : Int)) := by
  refine .mk (prts (ds ++ [d])) ww rr ⟨parts_ok _ t, ?_, hw, hr, by omega, ?_⟩
  · rw [runD_at]; exact hb
  · rw [prts_snoc, List.length_append]; unfold prtR; rw [List.length_cons]; omega
theorem prt_wm {rs : List Rw} (t : TxR rs) : ∀ ws ∈ (prts rs).map LPart.ws, WsM ws := fun ws h => by
  obtain ⟨p, hp, rfl⟩ := List.mem_map.mp h
  exact ⟨p.ne, Nat.le_trans p.few (by decide), LPart.wok (t.pt p hp)⟩
theorem pxl_cut {rs : List Rw} (t : TxR rs) (hl : (prts rs).length ≤ 50) {k : Nat} (h1 : 1 ≤ k) (h2 : k ≤ (prts rs).length) {ds : List Rw} {d : Rw} (td : TxR (ds ++ [d])) (e : prts (ds ++ [d]) = (prts rs).take k) {ww : List Str} (hw : WsM ww) (hb : LBad ⟨ds, some ⟨d.n, d.S, d.L, d.P, lwW d⟩⟩ ww) :
    PXl (((prts rs).map LPart.ws).take k ++ [ww] ++ ((prts rs).map LPart.ws).drop k) ((k : Int) + 1) := by
  have hk : (prts (ds ++ [d])).length = k := by rw [e, List.length_take]; omega
  have h := pxl_at td (by omega) hw hb (rr := ((prts rs).map LPart.ws).drop k) (fun ws h => prt_wm t ws (List.mem_of_mem_drop h)) (by rw [List.length_drop, List.length_map]; omega)
  rw [hk, e, List.map_take] at h
  have e2 : ((1 : Nat) : Int) + (k : Int) = (k : Int) + 1 := by omega
  rw [e2] at h
  rw [List.append_assoc]
  exact h
theorem pxl_fst {rs : List Rw} (t : TxR rs) (h0 : 1 ≤ (prts rs).length) (hl : (prts rs).length ≤ 50) {ww : List Str} (hw : WsM ww) (hb : LBad ⟨[], none⟩ ww) : PXl ([ww] ++ (prts rs).map LPart.ws) 1 := by
  have h := PXl.mk [] ww ((prts rs).map LPart.ws) ⟨fun i l h => by simp at h, hb, hw, prt_wm t, by rw [List.length_map]; show 0 + _ ≤ _; omega, by rw [List.length_map]; show 1 ≤ 0 + _; omega⟩
  exact h
theorem qRws_tx (ns : List Int) (f : Int) {m : Nat} (hm : m ≤ 10) : TxR (qRws ns f m) := by
  have at_ : ∀ r ∈ qRws ns f m, ∃ k, k < m ∧ r = qRw ns f k := fun r hr => by
    unfold qRws at hr
    obtain ⟨k, hk, rfl⟩ := List.mem_map.mp hr
    exact ⟨k, List.mem_range.mp hk, rfl⟩
  refine ⟨qRws_libOk hm, fun r hr => ?_, fun p hp => ?_, fun r hr => ?_, by rw [qRws_len]; omega⟩
  · obtain ⟨k, hk, rfl⟩ := at_ r hr
    exact qRw_ok ns f (show k < 64 by omega)
  · unfold prts at hp
    obtain ⟨l, hl, hp⟩ := List.mem_flatten.mp hp
    obtain ⟨r, hr, rfl⟩ := List.mem_map.mp hl
    obtain ⟨k, hk, rfl⟩ := at_ r hr
    have ok := qRw_ok ns f (show k < 64 by omega)
    unfold prtR at hp
    simp only [List.mem_cons, List.mem_append, List.mem_map] at hp
    rcases hp with rfl | ⟨s, hs, rfl⟩ | ⟨v, hv, rfl⟩ | ⟨v, hv, rfl⟩
    · exact ok.n
    · have := (qRw_lil ns f k).s s hs
      exact ⟨ok.s s hs, rz_of (by omega), rz_of (by omega), rz_of (by omega), rz_of (by omega)⟩
    · have := (qRw_lil ns f k).l v hv
      exact ⟨ok.l v hv, rz_of (by omega), rz_of (by omega)⟩
    · obtain ⟨j, hj, e⟩ := qPls_at (show v ∈ qPls ns f k (qPn ns f k) from hv)
      have z := qPl_rz ns f k j
      rw [← e] at z
      exact ⟨ok.p v hv, z.1, z.2.1, z.2.2.1, z.2.2.2.1, z.2.2.2.2.1, z.2.2.2.2.2.1, z.2.2.2.2.2.2⟩
  · obtain ⟨k, hk, rfl⟩ := at_ r hr
    have := qRw_len ns f k
    omega
theorem few_lR (ns : List Int) (f : Int) {m : Nat} (hm : m ≤ 4) : (prts (qRws ns f m)).length ≤ 32 := by
  have g : ∀ xs : List Rw, (∀ r ∈ xs, r.S.length ≤ 3 ∧ r.L.length ≤ 2 ∧ r.P.length ≤ 2) → (prts xs).length ≤ 8 * xs.length := fun xs => by
    induction xs with
    | nil => intro _; simp [prts]
    | cons x xs ih =>
      intro hx
      have h1 := ih fun b hb => hx b (List.mem_cons_of_mem _ hb)
      have h2 := hx x List.mem_cons_self
      have e : prts (x :: xs) = prtR x ++ prts xs := by simp [prts]
      rw [e, List.length_append, List.length_cons]
      have : (prtR x).length ≤ 8 := by unfold prtR; simp only [List.length_cons, List.length_append, List.length_map]; omega
      omega
  have := g (qRws ns f m) fun r hr => by
    unfold qRws at hr
    obtain ⟨k, hk, rfl⟩ := List.mem_map.mp hr
    exact qRw_len ns f k
  rw [qRws_len] at this; omega
theorem prts_pos {rs : List Rw} (h : rs ≠ []) : 1 ≤ (prts rs).length := by
  obtain ⟨b, r, rfl⟩ := List.exists_cons_of_ne_nil h
  have e : prts (b :: r) = prtR b ++ prts r := by simp [prts]
  rw [e, List.length_append]; unfold prtR; rw [List.length_cons]; omega
theorem rdn (ns : List Int) {ws : List Str} (h : ns.map stI = ws) (hz : ∀ i ∈ ns, i.natAbs ≤ 1000) : RdW ws (some ns) := by
  rw [← h]
  exact .ok ns fun i hi => ⟨by have := hz i hi; omega⟩
theorem lits31 : (WOk "cells" ∧ WOk "cell" ∧ WOk "shape" ∧ WOk "metal" ∧ WOk "steel" ∧ WOk "5" ∧ WOk "2" ∧ WOk "4" ∧ WOk "Shape") ∧ (WOk "label" ∧ WOk "via" ∧ WOk "place" ∧ WOk "#" ∧ WOk "library" ∧ WOk "8" ∧ WOk "-1" ∧ WOk "101" ∧ WOk "zy") ∧ (WOk "top") :=
  ⟨⟨wok_of (by decide +kernel), wok_of (by decide +kernel), wok_of (by decide +kernel), wok_of (by decide +kernel), wok_of (by decide +kernel), wok_of (by decide +kernel), wok_of (by decide +kernel), wok_of (by decide +kernel), wok_of (by decide +kernel)⟩,
   ⟨wok_of (by decide +kernel), wok_of (by decide +kernel), wok_of (by decide +kernel), wok_of (by decide +kernel), wok_of (by decide +kernel), wok_of (by decide +kernel), wok_of (by decide +kernel), wok_of (by decide +kernel), wok_of (by decide +kernel)⟩, wok_of (by decide +kernel)⟩
theorem plaB_no {n : Str} {t a b c r e f : Int} (h : ¬ (0 ≤ t ∧ t < 8 ∧ 1 ≤ c ∧ c ≤ 100 ∧ 1 ≤ r ∧ r ≤ 100)) : plaB ⟨n, t, a, b, c, r, e, f⟩ = false := by
  cases e : plaB ⟨n, t, a, b, c, r, e, f⟩ with
  | false => rfl
  | true =>
    unfold plaB at e
    simp only [Bool.and_eq_true, decide_eq_true_eq] at e
    exact absurd ⟨e.2.1.1, e.2.1.2, e.2.2.1.1, e.2.2.1.2, e.2.2.2.1, e.2.2.2.2⟩ h
theorem plaB_nm {n : Str} {t a b c r e f : Int} (h : nameB n = false) : plaB ⟨n, t, a, b, c, r, e, f⟩ = false := by unfold plaB; rw [h]; rfl
theorem labB_nm {n l : Str} {x y : Int} (h : nameB n = false) : labB ⟨n, l, x, y⟩ = false := by unfold labB; rw [h]; rfl
theorem shB_lits : shB ("steel", ⟨0, 0, 1, 1⟩) = false ∧ shB ("metal", ⟨0, 0, 0, 1⟩) = false ∧ shB ("metal", ⟨1, 5, 2, 4⟩) = false ∧ labB ⟨"a", "via", 0, 0⟩ = false := by decide +kernel
def pl0 (n : Str) : List Str := ["place", n, "0", "0", "0", "1", "1", "0", "0"]
def sh0 : List Str := ["shape", "metal", "0", "0", "1", "1"]
def la0 : List Str := ["label", "a", "metal", "0", "0"]
theorem pl0_ws (n : Str) : (LPart.p ⟨n, 0, 0, 0, 1, 1, 0, 0⟩).ws = pl0 n := by
  show wnP _ = _
  unfold wnP pl0
  simp only [stI_lit.1, stI_lit.2.1]
theorem sh0_ws : (LPart.s ("metal", ⟨0, 0, 1, 1⟩)).ws = sh0 := by
  show wnS _ = _
  unfold wnS sh0
  simp only [stI_lit.1, stI_lit.2.1]
theorem la0_ws : (LPart.l ⟨"a", "metal", 0, 0⟩).ws = la0 := by
  show wnL _ = _
  unfold wnL la0
  simp only [stI_lit.1]
theorem r01 : Rz 0 ∧ Rz 1 := rz0
theorem pl0_ok {n : Str} (h : nameB n = true) : (LPart.p ⟨n, 0, 0, 0, 1, 1, 0, 0⟩).Ok := ⟨by unfold plaB; rw [h]; rfl, r01.1, r01.1, r01.1, r01.2, r01.2, r01.1, r01.1⟩
theorem sh0_ok : (LPart.s ("metal", ⟨0, 0, 1, 1⟩)).Ok := ⟨by decide +kernel, r01.1, r01.1, r01.2, r01.2⟩
theorem la0_ok : (LPart.l ⟨"a", "metal", 0, 0⟩).Ok := ⟨by decide +kernel, r01.1, r01.1⟩
theorem ok_wm {p : LPart} (h : p.Ok) : WsM p.ws := ⟨p.ne, Nat.le_trans p.few (by decide), LPart.wok h⟩
theorem pl0_wm {n : Str} (h : nameB n = true) : WsM (pl0 n) := by rw [← pl0_ws]; exact ok_wm (pl0_ok h)
theorem sh0_wm : WsM sh0 := by rw [← sh0_ws]; exact ok_wm sh0_ok
theorem la0_wm : WsM la0 := by rw [← la0_ws]; exact ok_wm la0_ok
theorem key_n {ds : List Rw} {n : Str} (h : n ∉ ds.map (·.n)) : (.inr n : Key) ∉ keyD ds := fun m => by rw [key_nms, libL_nms] at m; exact h m
theorem lb_new {ds : List Rw} {x : DCel} {n : Str} (hx : x.w ∈ loT) (hk : nameB n = true) (h : n ∉ ds.map (·.n)) : LBad ⟨ds, some x⟩ (pl0 n) := by
  rw [← pl0_ws]; exact .fit _ (pl0_ok hk) (.new _ x rfl hx (key_n h))
theorem lb_same {ds : List Rw} {x : DCel} (hk : nameB x.n = true) (hl : ds.length ≤ 58) : LBad ⟨ds, some x⟩ ["cell", x.n] :=
  .fit (.c x.n) hk (.same _ x rfl (by unfold DSt.all; rw [List.length_append]; show ds.length + 1 < 60; omega) rfl)
theorem wd_l : decide (("shape" : Str) = "cell") = false ∧ decide (("label" : Str) = "cell") = false ∧ decide (("place" : Str) = "cell") = false := by decide +kernel
theorem lb_ordS {ds : List Rw} {x : DCel} (hx : x.w = "label" ∨ x.w = "place") : LBad ⟨ds, some x⟩ sh0 := by
  rw [← sh0_ws]
  refine .fit _ sh0_ok (.ord _ x wd_l.1 rfl (by rcases hx with e | e <;> rw [e] <;> simp [loT]) ?_)
  rcases hx with e | e <;> rw [e] <;> decide +kernel
theorem lb_ordL {ds : List Rw} {x : DCel} (hx : x.w = "place") : LBad ⟨ds, some x⟩ la0 := by
  rw [← la0_ws]
  refine .fit _ la0_ok (.ord _ x wd_l.2.1 rfl (by rw [hx]; simp [loT]) ?_)
  rw [hx]; decide +kernel
def wlW (m : Int) (n : Str) : List (List Str) :=
  [[""], ["cells", "zz"], ["cell"], ["cell", "zz", "zz"], ["cell", badAt m], ["cell", n], ["", "cell", "zz"], ["cell", "zz", ""], ["cell", "", "zz"],
   ["shape", "metal", "0", "0", "1"], ["shape", "metal", "0", "0", "1", "1", "1"], ["shape", "steel", "0", "0", "1", "1"], ["shape", "metal", "0", "0", "0", "1"], ["shape", "metal", "1", "5", "2", "4"],
   ["shape", "metal", "0", "0", "1", badIw m], ["shape", "", "metal", "0", "0", "1", "1"], ["Shape", "metal", "0", "0", "1", "1"], ["label", "a", "via", "0", "0"], ["label", "a", "metal", "0"],
   ["label", badAt m, "metal", "0", "0"], ["label", "a", "metal", badIw m, "0"], pl0 n, pl0 "zzzz", ["place", n], ["#"], pl0 (badAt m)]
def wlS (m : Int) (n : Str) : List Str :=
  ["", "cells zz", "cell", "cell zz zz", ("cell " : Str) ++ badAt m, ("cell " : Str) ++ n, " cell zz", "cell zz ", "cell  zz",
   "shape metal 0 0 1", "shape metal 0 0 1 1 1", "shape steel 0 0 1 1", "shape metal 0 0 0 1", "shape metal 1 5 2 4",
   ("shape metal 0 0 1 " : Str) ++ badIw m, "shape  metal 0 0 1 1", "Shape metal 0 0 1 1", "label a via 0 0", "label a metal 0",
   ("label " : Str) ++ badAt m ++ (" metal 0 0" : Str), ("label a metal " : Str) ++ badIw m ++ (" 0" : Str), ("place " : Str) ++ n ++ (" 0 0 0 1 1 0 0" : Str), "place zzzz 0 0 0 1 1 0 0", ("place " : Str) ++ n, "#", ("place " : Str) ++ badAt m ++ (" 0 0 0 1 1 0 0" : Str)]
theorem pl0_str (w : Str) : ("place " : Str) ++ w ++ (" 0 0 0 1 1 0 0" : Str) = lnW (pl0 w) := ln_inf (a := ["place"]) (b := ["0", "0", "0", "1", "1", "0", "0"]) (by simp) (by simp) (by decide +kernel) (by decide +kernel)
theorem wl_str (m : Int) (n : Str) : wlS m n = (wlW m n).map lnW := by
  have e1 : ∀ w : Str, ("cell " : Str) ++ w = lnW ["cell", w] := fun w => ln_sfx (a := ["cell"]) (by simp) (by decide +kernel)
  have e2 : ∀ w : Str, ("shape metal 0 0 1 " : Str) ++ w = lnW ["shape", "metal", "0", "0", "1", w] := fun w => ln_sfx (a := ["shape", "metal", "0", "0", "1"]) (by simp) (by decide +kernel)
  have e3 : ∀ w : Str, ("label " : Str) ++ w ++ (" metal 0 0" : Str) = lnW ["label", w, "metal", "0", "0"] := fun w => ln_inf (a := ["label"]) (b := ["metal", "0", "0"]) (by simp) (by simp) (by decide +kernel) (by decide +kernel)
  have e4 : ∀ w : Str, ("label a metal " : Str) ++ w ++ (" 0" : Str) = lnW ["label", "a", "metal", w, "0"] := fun w => ln_inf (a := ["label", "a", "metal"]) (b := ["0"]) (by simp) (by simp) (by decide +kernel) (by decide +kernel)
  have e5 : ∀ w : Str, ("place " : Str) ++ w = lnW ["place", w] := fun w => ln_sfx (a := ["place"]) (by simp) (by decide +kernel)
  unfold wlS wlW
  rw [e1, e1, e2, e3, e4, pl0_str, pl0_str, e5]
  simp only [List.map_cons, List.map_nil]
  have f : ("" : Str) = lnW [""] ∧ ("cells zz" : Str) = lnW ["cells", "zz"] ∧ ("cell" : Str) = lnW ["cell"] ∧ ("cell zz zz" : Str) = lnW ["cell", "zz", "zz"] ∧ (" cell zz" : Str) = lnW ["", "cell", "zz"] ∧ ("cell zz " : Str) = lnW ["cell", "zz", ""] ∧ ("cell  zz" : Str) = lnW ["cell", "", "zz"] := by decide +kernel
  have g : ("shape metal 0 0 1" : Str) = lnW ["shape", "metal", "0", "0", "1"] ∧ ("shape metal 0 0 1 1 1" : Str) = lnW ["shape", "metal", "0", "0", "1", "1", "1"] ∧ ("shape steel 0 0 1 1" : Str) = lnW ["shape", "steel", "0", "0", "1", "1"] ∧ ("shape metal 0 0 0 1" : Str) = lnW ["shape", "metal", "0", "0", "0", "1"] ∧ ("shape metal 1 5 2 4" : Str) = lnW ["shape", "metal", "1", "5", "2", "4"] := by decide +kernel
  have k : ("shape  metal 0 0 1 1" : Str) = lnW ["shape", "", "metal", "0", "0", "1", "1"] ∧ ("Shape metal 0 0 1 1" : Str) = lnW ["Shape", "metal", "0", "0", "1", "1"] ∧ ("label a via 0 0" : Str) = lnW ["label", "a", "via", "0", "0"] ∧ ("label a metal 0" : Str) = lnW ["label", "a", "metal", "0"] ∧ ("place zzzz 0 0 0 1 1 0 0" : Str) = lnW (pl0 "zzzz") ∧ ("#" : Str) = lnW ["#"] := by decide +kernel
  obtain ⟨f0, f1, f2, f3, f4, f5, f6⟩ := f
  obtain ⟨g0, g1, g2, g3, g4⟩ := g
  obtain ⟨k0, k1, k2, k3, k4, k5⟩ := k
  rw [← f0, ← f1, ← f2, ← f3, ← f4, ← f5, ← f6, ← g0, ← g1, ← g2, ← g3, ← g4, ← k0, ← k1, ← k2, ← k3, ← k4, ← k5]
theorem nm_zz : nameB "zz" = true ∧ nameB "zzzz" = true ∧ nameB "" = false := by decide +kernel
theorem lo_in : ("cell" : Str) ∈ loT ∧ ("shape" : Str) ∈ loT ∧ ("label" : Str) ∈ loT ∧ ("place" : Str) ∈ loT := by simp [loT]
theorem wl_bad {ds : List Rw} {x : DCel} {m : Int} (hx : x.w ∈ loT) (hl : ds.length ≤ 58) (hn : x.n ∉ ds.map (·.n)) (hz : ("zzzz" : Str) ∉ ds.map (·.n)) (hk : nameB x.n = true) : ∀ ws ∈ wlW m x.n, LBad ⟨ds, some x⟩ ws ∧ WsM ws := fun ws h => by
  obtain ⟨⟨a0, _, _, a3, a4, a5, a6, a7, a8⟩, b0, b1, b2, b3, b4, b5, b6, _⟩ := lits83
  obtain ⟨⟨c0, c1, c2, c3, c4, c5, c6, c7, c8⟩, ⟨d0, d1, d2, d3, d4, d5, d6, d7, d8⟩, d9⟩ := lits31
  have wn : WOk x.n := name_w hk
  have wb := badAt_w m
  have wi := (badI_no m).2
  have nb := (badAt_no m).1
  have W : ∀ {ws : List Str}, ws ≠ [] → ws.length ≤ 12 → (∀ w ∈ ws, WOk w) → WsM ws := wm_of
  obtain ⟨l1, l2, l3, l4⟩ := shB_lits
  unfold wlW at h
  simp only [List.mem_cons, List.not_mem_nil, or_false] at h
  rcases h with rfl | rfl | rfl | rfl | rfl | rfl | rfl | rfl | rfl | rfl | rfl | rfl | rfl | rfl | rfl | rfl | rfl | rfl | rfl | rfl | rfl | rfl | rfl | rfl | rfl | rfl
  · exact ⟨.no _ (.unk _ _ (by simp [unkW])), W (by simp) (by simp) (wc a0 wz)⟩
  · exact ⟨.no _ (.unk _ _ (by simp [unkW])), W (by simp) (by simp) (wc c0 (wc a3 wz))⟩
  · exact ⟨.no _ (.cnt _ _ 0 lo_in.1 (show unkB "cell" 0 = true by decide +kernel)), W (by simp) (by simp) (wc c1 wz)⟩
  · exact ⟨.no _ (.cnt _ _ 2 lo_in.1 (show unkB "cell" 2 = true by decide +kernel)), W (by simp) (by simp) (wc c1 (wc a3 (wc a3 wz)))⟩
  · exact ⟨.no _ (.cel _ nb), W (by simp) (by simp) (wc c1 (wc wb wz))⟩
  · exact ⟨lb_same hk hl, W (by simp) (by simp) (wc c1 (wc wn wz))⟩
  · exact ⟨.no _ (.unk _ _ (by simp [unkW])), W (by simp) (by simp) (wc a0 (wc c1 (wc a3 wz)))⟩
  · exact ⟨.no _ (.cnt _ _ 2 lo_in.1 (show unkB "cell" 2 = true by decide +kernel)), W (by simp) (by simp) (wc c1 (wc a3 (wc a0 wz)))⟩
  · exact ⟨.no _ (.cnt _ _ 2 lo_in.1 (show unkB "cell" 2 = true by decide +kernel)), W (by simp) (by simp) (wc c1 (wc a0 (wc a3 wz)))⟩
  · exact ⟨.no _ (.cnt _ _ 4 lo_in.2.1 (show unkB "shape" 4 = true by decide +kernel)), W (by simp) (by simp) (wc c2 (wc c3 (wc b0 (wc b0 (wc a8 wz)))))⟩
  · exact ⟨.no _ (.cnt _ _ 6 lo_in.2.1 (show unkB "shape" 6 = true by decide +kernel)), W (by simp) (by simp) (wc c2 (wc c3 (wc b0 (wc b0 (wc a8 (wc a8 (wc a8 wz)))))))⟩
  · exact ⟨.no _ (.shp _ _ _ _ _ _ (rdn [0, 0, 1, 1] (by decide +kernel) (by decide)) (.inr ⟨_, _, _, _, rfl, l1⟩)), W (by simp) (by simp) (wc c2 (wc c4 (wc b0 (wc b0 (wc a8 (wc a8 wz))))))⟩
  · exact ⟨.no _ (.shp _ _ _ _ _ _ (rdn [0, 0, 0, 1] (by decide +kernel) (by decide)) (.inr ⟨_, _, _, _, rfl, l2⟩)), W (by simp) (by simp) (wc c2 (wc c3 (wc b0 (wc b0 (wc b0 (wc a8 wz))))))⟩
  · exact ⟨.no _ (.shp _ _ _ _ _ _ (rdn [1, 5, 2, 4] (by decide +kernel) (by decide)) (.inr ⟨_, _, _, _, rfl, l3⟩)), W (by simp) (by simp) (wc c2 (wc c3 (wc a8 (wc c5 (wc c6 (wc c7 wz))))))⟩
  · exact ⟨.no _ (.shp _ _ _ _ _ none (.bad _ (badIw m) (by simp) (badI_no m).1) (.inl rfl)), W (by simp) (by simp) (wc c2 (wc c3 (wc b0 (wc b0 (wc a8 (wc wi wz))))))⟩
  · exact ⟨.no _ (.cnt _ _ 6 lo_in.2.1 (show unkB "shape" 6 = true by decide +kernel)), W (by simp) (by simp) (wc c2 (wc a0 (wc c3 (wc b0 (wc b0 (wc a8 (wc a8 wz)))))))⟩
  · exact ⟨.no _ (.unk _ _ (by simp [unkW])), W (by simp) (by simp) (wc c8 (wc c3 (wc b0 (wc b0 (wc a8 (wc a8 wz))))))⟩
  · exact ⟨.no _ (.lab _ _ _ _ _ (rdn [0, 0] (by decide +kernel) (by decide)) (.inr ⟨_, _, rfl, l4⟩)), W (by simp) (by simp) (wc d0 (wc a4 (wc d1 (wc b0 (wc b0 wz)))))⟩
  · exact ⟨.no _ (.cnt _ _ 3 lo_in.2.2.1 (show unkB "label" 3 = true by decide +kernel)), W (by simp) (by simp) (wc d0 (wc a4 (wc c3 (wc b0 wz))))⟩
  · exact ⟨.no _ (.lab _ _ _ _ _ (rdn [0, 0] (by decide +kernel) (by decide)) (.inr ⟨_, _, rfl, labB_nm nb⟩)), W (by simp) (by simp) (wc d0 (wc wb (wc c3 (wc b0 (wc b0 wz)))))⟩
  · exact ⟨.no _ (.lab _ _ _ _ none (.bad _ (badIw m) (by simp) (badI_no m).1) (.inl rfl)), W (by simp) (by simp) (wc d0 (wc a4 (wc c3 (wc wi (wc b0 wz)))))⟩
  · exact ⟨lb_new hx hk hn, pl0_wm hk⟩
  · exact ⟨lb_new hx nm_zz.2.1 hz, pl0_wm nm_zz.2.1⟩
  · exact ⟨.no _ (.cnt _ _ 1 lo_in.2.2.2 (show unkB "place" 1 = true by decide +kernel)), W (by simp) (by simp) (wc d2 (wc wn wz))⟩
  · exact ⟨.no _ (.unk _ _ (by simp [unkW])), W (by simp) (by simp) (wc d3 wz)⟩
  · exact ⟨.no _ (.pla _ _ _ _ _ _ _ _ _ (rdn [0, 0, 0, 1, 1, 0, 0] (by decide +kernel) (by decide)) (.inr ⟨_, _, _, _, _, _, _, rfl, plaB_nm nb⟩)), W (by simp [pl0]) (by simp [pl0]) (wc d2 (wc wb (wc b0 (wc b0 (wc b0 (wc a8 (wc a8 (wc b0 (wc b0 wz)))))))))⟩
def wpX (m : Int) : List (List Str) :=
  [["8", "0", "0", "1", "1", "0", "0"], ["-1", "0", "0", "1", "1", "0", "0"], ["0", "0", "0", "0", "1", "0", "0"], ["0", "0", "0", "101", "1", "0", "0"], ["0", "0", "0", "1", "0", "0", "0"], ["0", "0", "0", "1", "101", "0", "0"],
   ["0", "0", "0", "1", "1", "0"], ["0", "0", "0", "1", "1", "0", "0", "0"], [badIw m, "0", "0", "1", "1", "0", "0"], ["0", "0", "0", "1", "1", "0", badIw m], ["0", badIw m, "0", "1", "1", "0", "0"]]
def wpS (m : Int) : List Str :=
  ["8 0 0 1 1 0 0", "-1 0 0 1 1 0 0", "0 0 0 0 1 0 0", "0 0 0 101 1 0 0", "0 0 0 1 0 0 0", "0 0 0 1 101 0 0",
   "0 0 0 1 1 0", "0 0 0 1 1 0 0 0", badIw m ++ (" 0 0 1 1 0 0" : Str), ("0 0 0 1 1 0 " : Str) ++ badIw m, ("0 " : Str) ++ badIw m ++ (" 0 1 1 0 0" : Str)]
theorem wp_str (m : Int) : wpS m = (wpX m).map lnW := by
  have e1 : ∀ w : Str, w ++ (" 0 0 1 1 0 0" : Str) = lnW [w, "0", "0", "1", "1", "0", "0"] := fun w => by
    rw [show (" 0 0 1 1 0 0" : Str) = (" " : Str) ++ lnW ["0", "0", "1", "1", "0", "0"] by decide +kernel, ln_two w "0" ["0", "1", "1", "0", "0"], app_assoc]
  have e2 : ∀ w : Str, ("0 0 0 1 1 0 " : Str) ++ w = lnW ["0", "0", "0", "1", "1", "0", w] := fun w => ln_sfx (a := ["0", "0", "0", "1", "1", "0"]) (by simp) (by decide +kernel)
  have e3 : ∀ w : Str, ("0 " : Str) ++ w ++ (" 0 1 1 0 0" : Str) = lnW ["0", w, "0", "1", "1", "0", "0"] := fun w => ln_inf (a := ["0"]) (b := ["0", "1", "1", "0", "0"]) (by simp) (by simp) (by decide +kernel) (by decide +kernel)
  unfold wpS wpX
  rw [e1, e2, e3]
  simp only [List.map_cons, List.map_nil]
  have f : ("8 0 0 1 1 0 0" : Str) = lnW ["8", "0", "0", "1", "1", "0", "0"] ∧ ("-1 0 0 1 1 0 0" : Str) = lnW ["-1", "0", "0", "1", "1", "0", "0"] ∧ ("0 0 0 0 1 0 0" : Str) = lnW ["0", "0", "0", "0", "1", "0", "0"] ∧ ("0 0 0 101 1 0 0" : Str) = lnW ["0", "0", "0", "101", "1", "0", "0"] := by decide +kernel
  have g : ("0 0 0 1 0 0 0" : Str) = lnW ["0", "0", "0", "1", "0", "0", "0"] ∧ ("0 0 0 1 101 0 0" : Str) = lnW ["0", "0", "0", "1", "101", "0", "0"] ∧ ("0 0 0 1 1 0" : Str) = lnW ["0", "0", "0", "1", "1", "0"] ∧ ("0 0 0 1 1 0 0 0" : Str) = lnW ["0", "0", "0", "1", "1", "0", "0", "0"] := by decide +kernel
  obtain ⟨f0, f1, f2, f3⟩ := f
  obtain ⟨g0, g1, g2, g3⟩ := g
  rw [← f0, ← f1, ← f2, ← f3, ← g0, ← g1, ← g2, ← g3]
theorem wp_bad {n : Str} {m : Int} (hk : nameB n = true) : ∀ xs ∈ wpX m, NoPart ("place" :: n :: xs) ∧ WsM ("place" :: n :: xs) := fun xs h => by
  obtain ⟨⟨a0, _, _, a3, a4, a5, a6, a7, a8⟩, b0, b1, b2, b3, b4, b5, b6, _⟩ := lits83
  obtain ⟨⟨c0, c1, c2, c3, c4, c5, c6, c7, c8⟩, ⟨d0, d1, d2, d3, d4, d5, d6, d7, d8⟩, d9⟩ := lits31
  have wn : WOk n := name_w hk
  have wi := (badI_no m).2
  have W : ∀ {ws : List Str}, ws ≠ [] → ws.length ≤ 12 → (∀ w ∈ ws, WOk w) → WsM ws := wm_of
  unfold wpX at h
  simp only [List.mem_cons, List.not_mem_nil, or_false] at h
  rcases h with rfl | rfl | rfl | rfl | rfl | rfl | rfl | rfl | rfl | rfl | rfl
  · exact ⟨.pla _ _ _ _ _ _ _ _ _ (rdn [8, 0, 0, 1, 1, 0, 0] (by decide +kernel) (by decide)) (.inr ⟨_, _, _, _, _, _, _, rfl, plaB_no (by decide)⟩), W (by simp) (by simp) (wc d2 (wc wn (wc d5 (wc b0 (wc b0 (wc a8 (wc a8 (wc b0 (wc b0 wz)))))))))⟩
  · exact ⟨.pla _ _ _ _ _ _ _ _ _ (rdn [-1, 0, 0, 1, 1, 0, 0] (by decide +kernel) (by decide)) (.inr ⟨_, _, _, _, _, _, _, rfl, plaB_no (by decide)⟩), W (by simp) (by simp) (wc d2 (wc wn (wc d6 (wc b0 (wc b0 (wc a8 (wc a8 (wc b0 (wc b0 wz)))))))))⟩
  · exact ⟨.pla _ _ _ _ _ _ _ _ _ (rdn [0, 0, 0, 0, 1, 0, 0] (by decide +kernel) (by decide)) (.inr ⟨_, _, _, _, _, _, _, rfl, plaB_no (by decide)⟩), W (by simp) (by simp) (wc d2 (wc wn (wc b0 (wc b0 (wc b0 (wc b0 (wc a8 (wc b0 (wc b0 wz)))))))))⟩
  · exact ⟨.pla _ _ _ _ _ _ _ _ _ (rdn [0, 0, 0, 101, 1, 0, 0] (by decide +kernel) (by decide)) (.inr ⟨_, _, _, _, _, _, _, rfl, plaB_no (by decide)⟩), W (by simp) (by simp) (wc d2 (wc wn (wc b0 (wc b0 (wc b0 (wc d7 (wc a8 (wc b0 (wc b0 wz)))))))))⟩
  · exact ⟨.pla _ _ _ _ _ _ _ _ _ (rdn [0, 0, 0, 1, 0, 0, 0] (by decide +kernel) (by decide)) (.inr ⟨_, _, _, _, _, _, _, rfl, plaB_no (by decide)⟩), W (by simp) (by simp) (wc d2 (wc wn (wc b0 (wc b0 (wc b0 (wc a8 (wc b0 (wc b0 (wc b0 wz)))))))))⟩
  · exact ⟨.pla _ _ _ _ _ _ _ _ _ (rdn [0, 0, 0, 1, 101, 0, 0] (by decide +kernel) (by decide)) (.inr ⟨_, _, _, _, _, _, _, rfl, plaB_no (by decide)⟩), W (by simp) (by simp) (wc d2 (wc wn (wc b0 (wc b0 (wc b0 (wc a8 (wc d7 (wc b0 (wc b0 wz)))))))))⟩
  · exact ⟨.cnt _ _ 7 lo_in.2.2.2 (show unkB "place" 7 = true by decide +kernel), W (by simp) (by simp) (wc d2 (wc wn (wc b0 (wc b0 (wc b0 (wc a8 (wc a8 (wc b0 wz))))))))⟩
  · exact ⟨.cnt _ _ 9 lo_in.2.2.2 (show unkB "place" 9 = true by decide +kernel), W (by simp) (by simp) (wc d2 (wc wn (wc b0 (wc b0 (wc b0 (wc a8 (wc a8 (wc b0 (wc b0 (wc b0 wz))))))))))⟩
  · exact ⟨.pla _ _ _ _ _ _ _ _ none (.bad _ (badIw m) (by simp) (badI_no m).1) (.inl rfl), W (by simp) (by simp) (wc d2 (wc wn (wc wi (wc b0 (wc b0 (wc a8 (wc a8 (wc b0 (wc b0 wz)))))))))⟩
  · exact ⟨.pla _ _ _ _ _ _ _ _ none (.bad _ (badIw m) (by simp) (badI_no m).1) (.inl rfl), W (by simp) (by simp) (wc d2 (wc wn (wc b0 (wc b0 (wc b0 (wc a8 (wc a8 (wc b0 (wc wi wz)))))))))⟩
  · exact ⟨.pla _ _ _ _ _ _ _ _ none (.bad _ (badIw m) (by simp) (badI_no m).1) (.inl rfl), W (by simp) (by simp) (wc d2 (wc wn (wc b0 (wc wi (wc b0 (wc a8 (wc a8 (wc b0 (wc b0 wz)))))))))⟩
def wlAt (m : Int) (n : Str) (d : Int) : List Str := (wlW m n).getD (d % 26).toNat []
theorem wlAt_mem (m : Int) (n : Str) (d : Int) : wlAt m n d ∈ wlW m n := by
  have hl : (d % 26).toNat < (wlW m n).length := by show _ < 26; omega
  unfold wlAt
  rw [List.getD_eq_getElem?_getD, List.getElem?_eq_getElem hl]; exact List.getElem_mem hl
theorem wlAt_get (m : Int) (n : Str) (d : Int) : ((wlW m n).map lnW).getD (d % 26).toNat "" = lnW (wlAt m n d) := by
  have hl : (d % 26).toNat < (wlW m n).length := by show _ < 26; omega
  unfold wlAt
  rw [List.getD_eq_getElem?_getD, List.getElem?_map, List.getD_eq_getElem?_getD, List.getElem?_eq_getElem hl]; rfl
def wpAt (m d : Int) : List Str := (wpX m).getD (d % 11).toNat []
theorem wpAt_mem (m d : Int) : wpAt m d ∈ wpX m := by
  have hl : (d % 11).toNat < (wpX m).length := by show _ < 11; omega
  unfold wpAt
  rw [List.getD_eq_getElem?_getD, List.getElem?_eq_getElem hl]; exact List.getElem_mem hl
theorem wpAt_get (m d : Int) : ((wpX m).map lnW).getD (d % 11).toNat "" = lnW (wpAt m d) := by
  have hl : (d % 11).toNat < (wpX m).length := by show _ < 11; omega
  unfold wpAt
  rw [List.getD_eq_getElem?_getD, List.getElem?_map, List.getD_eq_getElem?_getD, List.getElem?_eq_getElem hl]; rfl
theorem wp_ne {m : Int} {xs : List Str} (h : xs ∈ wpX m) : ∃ a r, xs = a :: r := by
  unfold wpX at h
  simp only [List.mem_cons, List.not_mem_nil, or_false] at h
  rcases h with rfl | rfl | rfl | rfl | rfl | rfl | rfl | rfl | rfl | rfl | rfl <;> exact ⟨_, _, rfl⟩
theorem wp_ln {n : Str} {xs : List Str} (h : ∃ a r, xs = a :: r) : ("place " : Str) ++ n ++ (" " : Str) ++ lnW xs = lnW ("place" :: n :: xs) := by
  obtain ⟨a, r, rfl⟩ := h
  rw [ln_two "place" n (a :: r), ln_two n a r, show ("place " : Str) = ("place" : Str) ++ (" " : Str) by decide +kernel]
  simp only [app_assoc]
theorem lnR_ws (rs : List Rw) : lnR rs = ((prts rs).map LPart.ws).map lnW := by rw [← prts_ln, List.map_map]; rfl
def cZ (r : Rw) : Rw := ⟨"zz", [], [], [⟨r.n, 0, 0, 0, 1, 1, 0, 0⟩]⟩
theorem pl0_wn {n : Str} (h : nameB n = true) : WnP ⟨n, 0, 0, 0, 1, 1, 0, 0⟩ := pl0_ok h
theorem cZ_tx {rs : List Rw} (t : TxR rs) (hl : rs.length ≤ 59) (hz : ("zz" : Str) ∉ rs.map (·.n)) {r : Rw} (hr : r ∈ rs) : TxR (rs ++ [cZ r]) := by
  have hk := (t.cel r hr).n
  refine txR_snoc t hl ⟨fun h => hz (by rwa [libL_nms] at h), fun p hp => ?_, by simp [cZ], fun p hp => ?_⟩ ⟨nm_zz.1, fun s h => by simp [cZ] at h, fun s h => by simp [cZ] at h, fun s h => ?_⟩ (fun s h => by simp [cZ] at h) (fun s h => by simp [cZ] at h) (fun s h => ?_) (by simp [cZ])
  · rw [List.mem_singleton.mp hp, libL_nms]; exact List.mem_map.mpr ⟨r, hr, rfl⟩
  · rw [List.mem_singleton.mp hp]
    show ((1 : Int) ≤ 1 ∧ (1 : Int) ≤ 100) ∧ ((1 : Int) ≤ 1 ∧ (1 : Int) ≤ 100)
    decide
  · rw [List.mem_singleton.mp h]; exact (pl0_wn hk).ok
  · rw [List.mem_singleton.mp h]; exact pl0_wn hk
theorem wsR_Z (rs : List Rw) (r : Rw) : (prts (rs ++ [cZ r])).map LPart.ws = (prts rs).map LPart.ws ++ ([["cell", "zz"], pl0 r.n] : List (List Str)) := by
  rw [prts_snoc, List.map_append, ← pl0_ws]; rfl
def moL : List (List Str) := [sh0, la0, pl0 "zz", ["cell", "zz"]]
def fiL : List (List Str) := [sh0, la0, pl0 "zz", [""], ["library"]]
theorem moL_str : (["shape metal 0 0 1 1", "label a metal 0 0", "place zz 0 0 0 1 1 0 0", "cell zz"] : List Str) = moL.map lnW := by decide +kernel
theorem fiL_str : (["shape metal 0 0 1 1", "label a metal 0 0", "place zz 0 0 0 1 1 0 0", "", "library"] : List Str) = fiL.map lnW := by decide +kernel
theorem cel_wm {n : Str} (h : nameB n = true) : WsM ["cell", n] := wm_of (by simp) (by simp) (wc lits31.1.2.1 (wc (name_w h) wz))
theorem moL_bad {rs : List Rw} (hl : rs.length ≤ 58) (hz : ("zz" : Str) ∉ rs.map (·.n)) (r : Rw) : ∀ ws ∈ moL, LBad ⟨rs, some ⟨(cZ r).n, (cZ r).S, (cZ r).L, (cZ r).P, lwW (cZ r)⟩⟩ ws ∧ WsM ws := fun ws h => by
  unfold moL at h
  simp only [List.mem_cons, List.not_mem_nil, or_false] at h
  rcases h with rfl | rfl | rfl | rfl
  · exact ⟨lb_ordS (.inr rfl), sh0_wm⟩
  · exact ⟨lb_ordL rfl, la0_wm⟩
  · exact ⟨lb_new (lwW_in (cZ r)) nm_zz.1 hz, pl0_wm nm_zz.1⟩
  · exact ⟨lb_same (x := ⟨"zz", (cZ r).S, (cZ r).L, (cZ r).P, lwW (cZ r)⟩) nm_zz.1 hl, cel_wm nm_zz.1⟩
theorem fiL_bad : ∀ ws ∈ fiL, LBad ⟨[], none⟩ ws ∧ WsM ws := fun ws h => by
  unfold fiL at h
  simp only [List.mem_cons, List.not_mem_nil, or_false] at h
  rcases h with rfl | rfl | rfl | rfl | rfl
  · exact ⟨by rw [← sh0_ws]; exact .fit _ sh0_ok (.non _ wd_l.1 rfl), sh0_wm⟩
  · exact ⟨by rw [← la0_ws]; exact .fit _ la0_ok (.non _ wd_l.2.1 rfl), la0_wm⟩
  · exact ⟨by rw [← pl0_ws]; exact .fit _ (pl0_ok nm_zz.1) (.non _ wd_l.2.2 rfl), pl0_wm nm_zz.1⟩
  · exact ⟨.no _ (.unk _ _ (by simp [unkW])), wm_of (by simp) (by simp) (wc lits83.1.1 wz)⟩
  · exact ⟨.no _ (.unk _ _ (by simp [unkW])), wm_of (by simp) (by simp) (wc lits31.2.1.2.2.2.2.1 wz)⟩
theorem zy_wm : WsM ["cell", "zy"] := wm_of (by simp) (by simp) (wc lits31.1.2.1 (wc lits31.2.1.2.2.2.2.2.2.2.2 wz))
theorem txR_nil : TxR [] := ⟨fun k c h => by simp at h, fun r h => by simp at h, fun p h => by simp [prts] at h, fun r h => by simp at h, by simp⟩
/-- a cell alone -/
theorem txR_one {d : Rw} (ok : CelOk d.n d.S d.L d.P) (hs : ∀ s ∈ d.S, WnS s) (hv : ∀ v ∈ d.L, WnL v) (hp : d.P = []) (sz : d.S.length ≤ 100 ∧ d.L.length ≤ 100) : TxR ([] ++ [d]) :=
  txR_snoc txR_nil (by simp) ⟨fun h => by simp [libL, nmsL] at h, fun p h => by rw [hp] at h; simp at h, ⟨by omega, by omega, by rw [hp]; simp⟩, fun p h => by rw [hp] at h; simp at h⟩ ok hs hv (fun v h => by rw [hp] at h; simp at h) ⟨sz.1, sz.2, by rw [hp]; simp⟩
theorem thr_px : PXl [["cell", "a"], ["label", "b", "top", "0", "0"], sh0] 3 := by
  have h := pxl_at (ds := []) (d := ⟨"a", [], [⟨"b", "top", 0, 0⟩], []⟩) (ww := sh0) (rr := []) (txR_one ⟨by decide +kernel, fun s h => by simp at h, fun v h => by rw [List.mem_singleton.mp h]; decide +kernel, fun s h => by simp at h⟩ (fun s h => by simp at h) (fun v h => by rw [List.mem_singleton.mp h]; exact ⟨by decide +kernel, r01.1, r01.1⟩) rfl (by simp)) (by decide +kernel) sh0_wm (lb_ordS (.inl rfl)) (fun ws h => by cases h) (by simp)
  have e : (prts ([] ++ [(⟨"a", [], [⟨"b", "top", 0, 0⟩], []⟩ : Rw)])).map LPart.ws ++ [sh0] = ([["cell", "a"], ["label", "b", "top", "0", "0"], sh0] : List (List Str)) := by decide +kernel
  rw [e] at h
  exact h
theorem thr_str : (["cell a", "label b top 0 0", "shape metal 0 0 1 1"] : List Str) = ([["cell", "a"], ["label", "b", "top", "0", "0"], sh0] : List (List Str)).map lnW := by decide +kernel
theorem dup_px {rs : List Rw} (t : TxR rs) (hl : (prts rs).length ≤ 50) {r0 : Rw} {q : List Rw} (e : rs = r0 :: q) : PXl (((prts rs).map LPart.ws).take 1 ++ (prts rs).map LPart.ws) 2 := by
  have hk := (t.cel r0 (by rw [e]; exact List.mem_cons_self)).n
  have e1 : (prts rs).map LPart.ws = ([("cell" : Str), r0.n] : List Str) :: ((prts rs).map LPart.ws).tail := by rw [e]; rfl
  have h := pxl_at (ds := []) (d := ⟨r0.n, [], [], []⟩) (ww := ["cell", r0.n]) (rr := ((prts rs).map LPart.ws).tail) (txR_one ⟨hk, fun s h => by simp at h, fun s h => by simp at h, fun s h => by simp at h⟩ (fun s h => by simp at h) (fun s h => by simp at h) rfl (by simp)) (by show (1 : Nat) ≤ 900; omega) (cel_wm hk) (lb_same (x := ⟨r0.n, [], [], [], lwW ⟨r0.n, [], [], []⟩⟩) hk (by simp)) (fun ws h => prt_wm t ws (List.mem_of_mem_tail h)) (by rw [List.length_tail, List.length_map]; omega)
  rw [← e1] at h
  have e2 : ((prts rs).map LPart.ws).take 1 = (prts ([] ++ [(⟨r0.n, [], [], []⟩ : Rw)])).map LPart.ws := by rw [e1]; rfl
  rw [e2]
  exact h
theorem rs60_snoc : rs60 60 = rs60 59 ++ [r60 59] := by unfold rs60; rw [List.range_succ, List.map_append]; rfl
theorem six60_len : (prts (rs60 60)).length = 60 := by decide +kernel
theorem sixL_px : PXl ((prts (rs60 60)).map LPart.ws ++ ([["cell", "m60"]] : List (List Str))) 61 := by
  have t := rs60_tx
  have hl := six60_len
  rw [rs60_snoc] at t hl ⊢
  have h := pxl_at t (by omega) (ww := ["cell", "m60"]) (rr := []) (wm_of (by simp) (by simp) (wc lits31.1.2.1 (wc lits83.2.2.2.2.2.2.2.2 wz))) (.fit (.c "m60") (show nameB "m60" = true by decide +kernel) (.full _ (by unfold DSt.all; rw [List.length_append]; show 60 ≤ (rs60 59).length + 1; simp [rs60]))) (fun ws h => by cases h) (by simp)
  rw [hl] at h
  exact h
theorem sixL_str : ((List.range 61).map fun (k : Nat) => ("cell m" : Str) ++ stI (k : Int)) = ((prts (rs60 60)).map LPart.ws ++ ([["cell", "m60"]] : List (List Str))).map lnW := by
  rw [List.map_append, ← lnR_ws, linesR_60, List.range_succ, List.map_append]
  exact congrArg _ (show [("cell m" : Str) ++ stI ((60 : Nat) : Int)] = [lnW ["cell", "m60"]] by decide +kernel)
def isCl : LPart → Bool
  | .c _ => true
  | _ => false
def nmP (l : LPart) : Str := l.ws.getD 1 ""
theorem nms_pt : ∀ rs : List Rw, ((prts rs).filter isCl).map nmP = rs.map (·.n)
  | [] => rfl
  | r :: rs => by
    have e : prts (r :: rs) = prtR r ++ prts rs := by simp [prts]
    have f1 : (r.S.map LPart.s).filter isCl = [] := List.filter_eq_nil_iff.mpr fun l h => by obtain ⟨v, _, rfl⟩ := List.mem_map.mp h; simp [isCl]
    have f2 : (r.L.map LPart.l).filter isCl = [] := List.filter_eq_nil_iff.mpr fun l h => by obtain ⟨v, _, rfl⟩ := List.mem_map.mp h; simp [isCl]
    have f3 : (r.P.map LPart.p).filter isCl = [] := List.filter_eq_nil_iff.mpr fun l h => by obtain ⟨v, _, rfl⟩ := List.mem_map.mp h; simp [isCl]
    rw [e, List.filter_append, List.map_append, nms_pt rs]
    unfold prtR
    rw [List.filter_cons_of_pos (by rfl), List.filter_append, List.filter_append, f1, f2, f3]
    rfl
theorem litc_tl : ("cell " : Str).cps.toList = [99, 101, 108, 108, 32] ∧ ("shape" : Str).cps.toList = [115, 104, 97, 112, 101] ∧ ("label" : Str).cps.toList = [108, 97, 98, 101, 108] ∧ ("place" : Str).cps.toList = [112, 108, 97, 99, 101] := by decide +kernel
theorem pt_sw (p : LPart) : Txt.startswith (lnW p.ws) "cell " = isCl p := by
  cases p with
  | c n =>
    show Txt.startswith (lnW (wnC n)) "cell " = true
    rw [lnW_c]; exact sw_app _ _
  | s v =>
    show Txt.startswith (lnW ("shape" :: v.1 :: [stI v.2.a, stI v.2.b, stI v.2.c, stI v.2.d])) "cell " = false
    rw [ln_two]
    exact sw_no (by rw [cps_app, cps_app, litc_tl.2.1]; rfl) litc_tl.1 (by decide)
  | l v =>
    show Txt.startswith (lnW ("label" :: v.n :: [v.l, stI v.x, stI v.y])) "cell " = false
    rw [ln_two]
    exact sw_no (by rw [cps_app, cps_app, litc_tl.2.2.1]; rfl) litc_tl.1 (by decide)
  | p v =>
    show Txt.startswith (lnW ("place" :: v.n :: [stI v.t, stI v.dx, stI v.dy, stI v.c, stI v.r, stI v.sx, stI v.sy])) "cell " = false
    rw [ln_two]
    exact sw_no (by rw [cps_app, cps_app, litc_tl.2.2.2]; rfl) litc_tl.1 (by decide)
theorem pt_w2 (p : LPart) : D.lst (p.ws.map .str) = D.lst (.str p.wd :: .str (nmP p) :: (p.ws.drop 2).map .str) := by cases p <;> rfl
theorem at_nmR {ds : List Rw} {d : Rw} : atI (((prts (ds ++ [d])).filter isCl).map fun l => D.str (nmP l)) (-1) = some (D.str d.n) := by
  refine atI_last ?_
  rw [show (((prts (ds ++ [d])).filter isCl).map fun l => D.str (nmP l)) = (((prts (ds ++ [d])).filter isCl).map nmP).map D.str by rw [List.map_map]; rfl, nms_pt]
  simp
theorem cut_nR {ds : List Rw} {d : Rw} (t : TxR (ds ++ [d])) : d.n ∉ ds.map (·.n) := fun h => by
  have nd := t.nd
  rw [libL_nms, List.map_append] at nd
  exact (List.nodup_append.mp nd).2.2 _ h _ (by simp) rfl
theorem cut_zR {Q ds : List Rw} {d : Rw} {z : Str} (hnm : ∀ x ∈ ds ++ [d], ∃ y ∈ Q, x.n = y.n) (h : z ∉ Q.map (·.n)) : z ∉ ds.map (·.n) := fun m => by
  obtain ⟨x, hx, e⟩ := List.mem_map.mp m
  obtain ⟨y, hy, e2⟩ := hnm x (List.mem_append_left _ hx)
  exact h (List.mem_map.mpr ⟨y, hy, e2.symm.trans e⟩)
theorem noFig_z4 : noFig ("zzzz" : Str) := fun c h => by
  have e : ("zzzz" : Str).cps.toList = [122, 122, 122, 122] := by decide +kernel
  rw [e] at h; simp at h; omega
/-- a line that has no end -/
theorem txW_nl {W : List (List Str)} (h : W ≠ []) : txW W ++ ("\n" : Str) = txW (W ++ ([[""]] : List (List Str))) := by
  unfold txW
  rw [List.map_append, join_app _ (by simpa using h) (by simp)]
  show _ = _ ++ lnW [""]
  rw [show lnW [""] = ("" : Str) by decide +kernel]
  show _ = (_ ++ ("\n" : Str)) ++ ("" : Str)
  have : ∀ x : Str, x ++ ("" : Str) = x := fun x => by
    show (⟨x.cps ++ #[]⟩ : Str) = x
    rw [Array.append_empty]
  rw [this]
theorem jn_room {W : List (List Str)} (h : ∀ ws ∈ W, WsM ws) (hl : W.length ≤ 1300) : sumL (W.map lnW) + (W.map lnW).length * ("\n" : Str).length ≤ sizeLine := Nat.le_trans (txM_room h hl) (by rw [sizeLine_eq]; omega)
theorem cnt_ex {w : Str} {n : Nat} (h : w ∈ loT) (hu : unkB w n = true) : ∃ f c, (w, f) ∈ ([("cell", "read_cell_name"), ("shape", "read_shape"), ("label", "read_label"), ("place", "read_placement")] : List (Str × Str)) ∧ (w, D.int c) ∈ wcT ∧ c ≠ ((n + 1 : Nat) : Int) := by
  unfold loT at h
  simp only [List.mem_cons, List.not_mem_nil, or_false] at h
  have key : ∀ (w : Str) (k : Nat), (w, k) ∈ ([("cell", 1), ("shape", 5), ("label", 4), ("place", 8)] : List (Str × Nat)) → unkB w n = true → n ≠ k := fun w k hm hu e => by
    subst e
    unfold unkB at hu
    rw [Bool.not_eq_true', List.any_eq_false] at hu
    exact hu _ hm (by simp)
  rcases h with rfl | rfl | rfl | rfl
  · have := key "cell" 1 (by simp) hu
    exact ⟨"read_cell_name", 2, by simp, by simp [wcT], by omega⟩
  · have := key "shape" 5 (by simp) hu
    exact ⟨"read_shape", 6, by simp, by simp [wcT], by omega⟩
  · have := key "label" 4 (by simp) hu
    exact ⟨"read_label", 5, by simp, by simp [wcT], by omega⟩
  · have := key "place" 8 (by simp) hu
    exact ⟨"read_placement", 9, by simp, by simp [wcT], by omega⟩
theorem cnt_fall {w : Str} {ws : List Str} {c : Int} (h : c ≠ ((ws.length + 1 : Nat) : Int)) (hx : (false || !decide (((List.map D.str (w :: ws)).length : Int) = c)) = false) : False := by
  rw [List.length_map, List.length_cons] at hx
  simp at hx
  omega
theorem wd_lo (p : LPart) : p.wd ∈ loT := by cases p <;> simp [LPart.wd, loT]
theorem ord_p {w : Str} (h : w ∈ loT) {v : Pla} : decide (((loT.idxOf (LPart.p v).wd : Nat) : Int) < ((loT.idxOf w : Nat) : Int)) = false := by
  have key5 : ∀ w ∈ loT, decide (((loT.idxOf ("place" : Str) : Nat) : Int) < ((loT.idxOf w : Nat) : Int)) = false := by decide +kernel
  exact key5 _ h
theorem wp_room {n : Str} {m : Int} {xs : List Str} (hn : n.length ≤ 41) (h : xs ∈ wpX m) : ((("place " : Str) ++ n) ++ (" " : Str)).length + (lnW xs).length ≤ sizeLine := by
  have h1 := (wp_bad (n := "a") (m := m) (by decide +kernel) xs h).2
  have h2 := ln_len12 (ws := xs) (fun w hw => h1.ok w (List.mem_cons_of_mem _ (List.mem_cons_of_mem _ hw))) (by have := h1.few; simp only [List.length_cons] at this; omega)
  rw [app_len, app_len, show ("place " : Str).length = 6 by decide +kernel, show (" " : Str).length = 1 by decide +kernel, sizeLine_eq]; omega
theorem zy_str : lnW ["cell", "zy"] = ("cell zy" : Str) := by decide +kernel
theorem celzz : lnW ["cell", "zz"] = ("cell zz" : Str) := by decide +kernel
end DL
namespace DL
open PySem PySem.Spec PyProof.Rows L2
local macro_rules | `(tactic| walk_at "side") => `(tactic| first | assumption | decide | omega | (simp only [List.length_map, List.length_append, List.length_cons, List.length_nil, sizeLine_eq] at *; omega))
local macro_rules | `(tactic| walk_at "len") => `(tactic| first | decide | (simp [sizeLine_eq]; done) | (simp [sizeLine_eq]; omega))
local macro_rules | `(tactic| walk_at "b2") => `(tactic| first
  | exact b2_add | exact b2_sub | exact b2_mod (by decide) | exact b2_fdiv ⟨by decide, by decide⟩
  | exact b2_mul (by first | exact Or.inr ⟨by decide, by decide⟩ | exact Or.inl ⟨by decide, by decide⟩ | exact Or.inr ⟨by omega, by omega⟩ | exact Or.inl ⟨by omega, by omega⟩)
  | exact b2_mod (by first | assumption | omega) | exact b2_fdiv ⟨by omega, by omega⟩ | exact b2_addS (by walk_at "side"))
local macro_rules | `(tactic| walk_at "c2") => `(tactic| first
  | exact c2_lt | exact c2_le | exact c2_gt | exact c2_ge | exact c2_eqI | exact c2_neI | exact c2_isN | exact c2_notN | exact c2_isB | exact c2_notB | exact c2_eqB | exact c2_neB | exact c2_eqS | exact c2_neS | exact c2_leS | exact c2_inInts | exact c2_eq2 (by assumption) | exact c2_eq4 (by assumption) | exact c2_ne2 (by assumption) | exact c2_ne4 (by assumption) | exact c2_eqInts (by assumption) | exact c2_neInts (by assumption) | exact c2_eqIntsL (by assumption) | exact c2_inSq (by assumption) | exact c2_notInSq (by assumption) | exact c2_eqBx (by assumption) | exact c2_neBx (by assumption))
local macro_rules | `(tactic| walk_at "ix") => `(tactic| first | exact IX.t0 | exact IX.t1 | exact IX.t2 | exact IX.t3 | exact IX.t4 | exact IX.t5 | exact IX.l0 | exact IX.l1 | exact IX.l2 | exact IX.l (at_draws (by first | decide | omega) (by first | decide | omega)) | exact ix_sel3 ⟨by omega, by omega⟩ | exact IX.l rfl)
local macro_rules | `(tactic| walk_at "bc") => `(tactic| first | exact bc_int | exact bc_lenL | exact bc_lenT | exact bc_tupL | exact bc_tupT | exact bc_min2 rfl | exact bc_max2 rfl)
local macro_rules | `(tactic| walk_at "bo") => `(tactic| first | exact bo_listL | exact bo_listT)
local macro_rules | `(tactic| walk_at "mk") => `(tactic| first | exact .mk _ | exact .mk _ _ | exact .mk _ _ _ | exact .mk _ _ _ _ | exact .mk _ _ _ _ _ | exact .mk _ _ _ _ _ _ | exact .mk _ _ _ _ _ _ _ | exact .mk _ _ _ _ _ _ _ _ | exact .mk)
local macro_rules | `(tactic| walk_at "kd") => `(tactic| first | exact kd_int | exact kd_bl | exact kd_str | (refine' kd_tup ?l ?c ?e ?z ?r; (case l => k_is); (case c => rfl); (case e => rfl); (case z => decide); (case r => walk_at "kds")))
local macro_rules | `(tactic| walk_at "kds") => `(tactic| first | exact kds_nil | (refine' kds_cons ?a ?b; (case a => walk_at "kd"); (case b => walk_at "kds")))
local macro_rules | `(tactic| walk_at "en") => `(tactic| simp only [en, enI, enL, List.map_cons, List.map_nil, List.length_cons, List.length_nil, List.cons_append, List.nil_append, List.replicate, Nat.add_one_sub_one, Nat.reduceAdd, Nat.reduceSub])
local macro_rules | `(tactic| walk_at "env") => `(tactic| simp only [upds, List.foldl_cons, List.foldl_nil, OC.d, List.set_cons_zero, List.set_cons_succ])
inductive R_E_InvalidText : List D → List D → Prop where
  | mk (i : Int) (h : Sm i) : R_E_InvalidText [.int i] [.int i]
inductive R_is_box : List D → D → Prop where
  | mk (x0 y0 x1 y1 : Int) : R_is_box [.tup [.int x0, .int y0, .int x1, .int y1]] (.bl (decide (x0 < x1) && decide (y0 < y1)))
inductive R_is_move : List D → D → Prop where
  | mk (t dx dy : Int) : R_is_move [.tup [.int t, .int dx, .int dy]] (.bl (decide (0 ≤ t) && decide (t < 8)))
inductive R_is_name : List D → D → Prop where
  | mk (x : Str) (h : x.length ≤ sizeLine) : R_is_name [.str x] (.bl (nameB x))
inductive R_is_shape : List D → D → Prop where
  | mk (s : Shp) : R_is_shape [shE s] (.bl (shB s))
inductive R_is_label : List D → D → Prop where
  | mk (v : Lab) (h : v.n.length ≤ sizeLine) : R_is_label [v.e] (.bl (labB v))
inductive R_is_placement : List D → D → Prop where
  | mk (v : Pla) (h : v.n.length ≤ sizeLine) : R_is_placement [v.e] (.bl (plaB v))
inductive R_Cell_init : List D → List Str → List D → Prop where
  | mk (n : Str) (S : List Shp) (L : List Lab) (P : List Pla) (dS dL dP : D) (hS : SeqD dS (S.map shE)) (hL : SeqD dL (L.map Lab.e)) (hP : SeqD dP (P.map Pla.e)) (hn : n.length ≤ sizeLine) (s1 : S.length ≤ 1000) (s2 : L.length ≤ 1000) (s3 : P.length ≤ 1000) (t2 : ∀ v ∈ L, v.n.length ≤ sizeLine) (t3 : ∀ v ∈ P, v.n.length ≤ sizeLine) (ok : CelOk n S L P) : R_Cell_init [.str n, dS, dL, dP] ["name", "shapes", "labels", "placements"] (celV n S L P)
inductive R_placed_count : List D → D → Prop where
  | mk (R : List LRow) (f : LRow → Int) (P : List Pla) (old : ∀ p ∈ P, p.n ∈ nmsL R) (bd : ∀ p ∈ P, (1 ≤ p.c ∧ p.c ≤ 100) ∧ (1 ≤ p.r ∧ p.r ≤ 100)) (hl : P.length ≤ 1000) : R_placed_count [.tup (P.map Pla.e), .dk (keyL R) (R.map fun x => .int (f x))] (.int (P.map fun p => p.c * p.r * cnt f R p.n).sum)
inductive R_Library_init : List D → List Str → List D → Prop where
  | mk (dd : D) (cs : List Rw) (hd : SeqD dd (cs.map celR)) (ok : LibOk cs) (hl : cs.length ≤ 60) : R_Library_init [dd] libN (libF (libL cs))
inductive R_Library_append_cell : Addr → Cs → List D → (Cs → D → Prop) → Prop where
  | mk (a p q s t : Addr) (R : List LRow) (c : Rw) (can : CanL R c) (hl : R.length ≤ 1000) : R_Library_append_cell a (libC a p q s t R) [celR c] (fun cs d => cs = libC a p q s t (stepL R c) ∧ d = .non)
inductive R_Library_cell : List D → D → Prop where
  | mk (R : List LRow) (n : Str) (r : Rw) (h : lookK (keyL R) (R.map fun x => celR x.r) (.inr n) = some (celR r)) : R_Library_cell [libD R, .str n] (celR r)
inductive R_Library_shape_count : List D → D → Prop where
  | mk (R : List LRow) (n : Str) (h : n ∈ nmsL R) : R_Library_shape_count [libD R, .str n] (.int (cnt LRow.sc R n))
inductive R_Library_label_count : List D → D → Prop where
  | mk (R : List LRow) (n : Str) (h : n ∈ nmsL R) : R_Library_label_count [libD R, .str n] (.int (cnt LRow.lc R n))
inductive R_Library_depth : List D → D → Prop where
  | mk (R : List LRow) (n : Str) (h : n ∈ nmsL R) : R_Library_depth [libD R, .str n] (.int (cnt LRow.dp R n))
inductive R_Library_known : List D → D → Prop where
  | mk (fd ds : List D) (ks : List Key) (n : Str) (d : D) (h : lookK ks ds (.inr n) = some d) : R_Library_known [.obj "Library" libN fd, .dk ks ds, .str n] d
inductive R_is_integer : List D → D → Prop where
  | gen (w : Str) (h : w.length ≤ 50) : R_is_integer [.str w] (.bl (isIB w))
theorem R_is_integer.mk (i : Int) (h : RdI i) : R_is_integer [.str (stI i)] (.bl true) := by
  have := R_is_integer.gen (stI i) (by have := h.len; omega)
  rwa [h.rz.isI] at this
inductive R_read_integers : List D → D → Prop where
  | gen (ws : List Str) (o : Option (List Int)) (r : RdW ws o) (hs : ∀ w ∈ ws, w.length ≤ 50) (hl : ws.length ≤ 100) : R_read_integers [.lst (ws.map .str)] (optT o)
theorem R_read_integers.mk (ns : List Int) (h : ∀ i ∈ ns, Rz i) (hl : ns.length ≤ 100) : R_read_integers [.lst (ns.map fun i => .str (stI i))] (.tup (ns.map .int)) := by
  have := R_read_integers.gen (ns.map stI) (some ns) (.ok ns h) (fun w hw => by obtain ⟨i, hi, rfl⟩ := List.mem_map.mp hw; have := (h i hi).len; omega) (by rw [List.length_map]; exact hl)
  rwa [List.map_map] at this
inductive R_read_cell_name : List D → D → Prop where
  | mk (n : Str) (h : nameB n = true) : R_read_cell_name [.lst ((wnC n).map .str)] (.str n)
  | no (n : Str) (h : nameB n = false) (hl : n.length ≤ sizeLine) : R_read_cell_name [.lst ((wnC n).map .str)] .non
inductive R_read_shape : List D → D → Prop where
  | mk (s : Shp) (h : WnS s) : R_read_shape [.lst ((wnS s).map .str)] (shE s)
  | no (l a b c e : Str) (o : Option (List Int)) (r : RdW [a, b, c, e] o) (h : o = none ∨ ∃ i j k m, o = some [i, j, k, m] ∧ shB (l, ⟨i, j, k, m⟩) = false) (hs : ∀ w ∈ ([a, b, c, e] : List Str), w.length ≤ 50) : R_read_shape [.lst (([("shape" : Str), l, a, b, c, e] : List Str).map .str)] .non
inductive R_read_label : List D → D → Prop where
  | mk (v : Lab) (h : WnL v) : R_read_label [.lst ((wnL v).map .str)] v.e
  | no (n l a b : Str) (o : Option (List Int)) (r : RdW [a, b] o) (h : o = none ∨ ∃ i j, o = some [i, j] ∧ labB ⟨n, l, i, j⟩ = false) (hs : ∀ w ∈ ([a, b] : List Str), w.length ≤ 50) (hn : n.length ≤ sizeLine) : R_read_label [.lst (([("label" : Str), n, l, a, b] : List Str).map .str)] .non
inductive R_read_placement : List D → D → Prop where
  | mk (v : Pla) (h : WnP v) : R_read_placement [.lst ((wnP v).map .str)] v.e
  | no (n t a b c e f g : Str) (o : Option (List Int)) (r : RdW [t, a, b, c, e, f, g] o) (h : o = none ∨ ∃ i j k l m q z, o = some [i, j, k, l, m, q, z] ∧ plaB ⟨n, i, j, k, l, m, q, z⟩ = false) (hs : ∀ w ∈ ([t, a, b, c, e, f, g] : List Str), w.length ≤ 50) (hn : n.length ≤ sizeLine) : R_read_placement [.lst (([("place" : Str), n, t, a, b, c, e, f, g] : List Str).map .str)] .non
inductive R_read_part_c : List D → D → Prop where
  | mk (n : Str) (h : nameB n = true) : R_read_part_c [.str (lnW (LPart.c n).ws)] (.tup [.str "cell", (LPart.c n).v])
inductive R_read_part_s : List D → D → Prop where
  | mk (v : Shp) (h : WnS v) : R_read_part_s [.str (lnW (LPart.s v).ws)] (.tup [.str "shape", (LPart.s v).v])
inductive R_read_part_l : List D → D → Prop where
  | mk (v : Lab) (h : WnL v) : R_read_part_l [.str (lnW (LPart.l v).ws)] (.tup [.str "label", (LPart.l v).v])
inductive R_read_part_p : List D → D → Prop where
  | mk (v : Pla) (h : WnP v) : R_read_part_p [.str (lnW (LPart.p v).ws)] (.tup [.str "place", (LPart.p v).v])
inductive R_read_part_x : List D → D → Prop where
  | mk (ws : List Str) (hw : WsM ws) (h : NoPart ws) : R_read_part_x [.str (lnW ws)] .non
inductive R_Draft_init : Addr → List D → (Cs → Prop) → Prop where
  | mk (a : Addr) : R_Draft_init a [] (fun cs => ∃ p q, cs = drC0 a p q)
inductive R_Draft_fits_v : Addr → Cs → List D → (Cs → D → Prop) → Prop where
  | mk (a p q b1 b2 b3 : Addr) (Z : List Rw) (c : Option DCel) (t : LPart) (h : DOk ⟨Z, c⟩ t) : R_Draft_fits_v a (drX a p q b1 b2 b3 Z c) [.str t.wd, t.v] (fun cs d => cs = drX a p q b1 b2 b3 Z c ∧ d = .bl true)
inductive R_Draft_fits_x : Addr → Cs → List D → (Cs → D → Prop) → Prop where
  | mk (a p q b1 b2 b3 : Addr) (Z : List Rw) (c : Option DCel) (t : LPart) (ok : t.Ok) (h : FBad ⟨Z, c⟩ t) : R_Draft_fits_x a (drX a p q b1 b2 b3 Z c) [.str t.wd, t.v] (fun _ d => d = .bl false)
inductive R_Draft_take : Addr → Cs → List D → (Cs → D → Prop) → Prop where
  | mk (a p q b1 b2 b3 : Addr) (Z : List Rw) (c : Option DCel) (t : LPart) (h : DOk ⟨Z, c⟩ t) (hl : Z.length ≤ 1000) : R_Draft_take a (drX a p q b1 b2 b3 Z c) [.str t.wd, t.v] (fun cs d => ∃ q2 c1 c2 c3, cs = drX a p q2 c1 c2 c3 (stD ⟨Z, c⟩ t).Z (stD ⟨Z, c⟩ t).c ∧ d = .non)
inductive R_Draft_library : Addr → Cs → List D → (Cs → D → Prop) → Prop where
  | mk (a p q b1 b2 b3 : Addr) (Z : List Rw) (c : Option DCel) (rs : List Rw) (h : ∀ x ∈ c.toList, x.Ok Z) (he : (DSt.mk Z c).all = rs) (ok : LibOk rs) (hl : rs.length ≤ 60) : R_Draft_library a (drX a p q b1 b2 b3 Z c) [] (fun cs d => d = libD (libL rs))
inductive R_Draft_complete : Addr → Cs → List D → (Cs → D → Prop) → Prop where
  | mk (a p q b1 b2 b3 : Addr) (Z : List Rw) (c : Option DCel) (ok : ∀ x ∈ c.toList, x.Ok Z) (hl : Z.length ≤ 1000) : R_Draft_complete a (drX a p q b1 b2 b3 Z c) [] (fun cs d => cs = drX a p q b1 b2 b3 (Z ++ (c.map DCel.rw).toList) c ∧ d = .non)
inductive R_parse_library : List D → D → Prop where
  | mk (rs : List Rw) (t : TxR rs) : R_parse_library [.str (txR rs)] (libD (libL rs))
inductive R_law_cell : List D → D → Prop where
  | mk (ns : List Int) (k : Int) (h : 0 ≤ k) : R_law_cell [.lst (ns.map .int), .int k] (.int (cellAt ns k))
inductive R_law_draws : List D → D → Prop where
  | mk (c n : Int) (h : 0 ≤ n) (h2 : n ≤ 1000) : R_law_draws [.int c, .int n] (.lst ((draws c n).map .int))
inductive R_law_box_of : List D → D → Prop where
  | mk (a b : Int) : R_law_box_of [.int a, .int b] (boxD (bx0 a) (by0 a) (bx1 a) (by1 a b))
inductive R_law_name : List D → D → Prop where
  | mk (d : Int) (h : 0 ≤ d) : R_law_name [.int d] (.str (nmOf d))
inductive R_law_qlayer : List D → D → Prop where
  | mk (d : Int) : R_law_qlayer [.int d] (.str (layAt d))
inductive R_law_qshapes : List D → D → Prop where
  | mk (c m : Int) (h : 0 ≤ m ∧ m ≤ 60) : R_law_qshapes [.int c, .int m] (.lst ((qShL c m (qCnt3 c m)).map shE))
inductive R_law_qlabels : List D → D → Prop where
  | mk (c m : Int) (h : 0 ≤ m ∧ m ≤ 60) : R_law_qlabels [.int c, .int m] (.lst ((qLaL c m (qCnt3 c m)).map Lab.e))
inductive R_law_qcells : List D → D → Prop where
  | mk (ns : List Int) (f m : Int) (hn : ns.length ≤ 63) (hf : 0 ≤ f ∧ f ≤ 60) (hm : 0 ≤ m ∧ m ≤ 20) : R_law_qcells [.lst (ns.map .int), .int f, .int m] (.lst ((qRws ns f m.toNat).map rwC))
inductive R_law_qtext : List D → D → Prop where
  | mk (rs : List Rw) (sm : ∀ r ∈ rs, SmR r) (hl : rs.length ≤ 20) : R_law_qtext [.lst (rs.map rwC)] (.lst ((lnR rs).map .str))
inductive R_law_qbad_integer : List D → D → Prop where
  | mk (d : Int) (h : 0 ≤ d) : R_law_qbad_integer [.int d] (.str (badIw d))
inductive R_law_qbad_name : List D → D → Prop where
  | mk (d : Int) (h : 0 ≤ d) : R_law_qbad_name [.int d] (.str (badAt d))
inductive R_law_line : List D → D → Prop where
  | mk (z : Str) (k : Int) (h : LXl z k) : R_law_line [.str z] (.int k)
inductive R_law_wrong_line : List D → D → Prop where
  | mk (d m : Int) (n : Str) (hd : 0 ≤ d) (hm : 0 ≤ m) (hn : n.length ≤ 41) : R_law_wrong_line [.int d, .str n, .int m] (.str (lnW (wlAt m n d)))
inductive R_law_wrong_place : List D → D → Prop where
  | mk (d m : Int) (n : Str) (hd : 0 ≤ d) (hm : 0 ≤ m) (hn : n.length ≤ 41) : R_law_wrong_place [.int d, .int m, .str n] (.str (lnW ("place" :: n :: wpAt m d)))
abbrev R_law := RLaw
inductive RX_parse_library : List D → Err → Prop where
  | mk (W : List (List Str)) (k : Int) (h : PXl W k) : RX_parse_library [.str (txW W)] (errF "InvalidText" ["line"] [.int k])
def top (i : Nat) : Stmt := PySem.Challenge.pw_reticle_k31_faults_of_written_libraries.main.body.getD i (.Pass ⟨0, 0, 0, 0⟩)
structure Bt (mg : Str → Option Value) : Prop where
  «all» : mg "all" = none
  «enumerate» : mg "enumerate" = none
  «int» : mg "int" = none
  «isinstance» : mg "isinstance" = none
  «len» : mg "len" = none
  «list» : mg "list" = none
  «max» : mg "max" = none
  «min» : mg "min" = none
  «range» : mg "range" = none
  «str» : mg "str" = none
  «sum» : mg "sum" = none
  «tuple» : mg "tuple" = none
structure Kt (K : PySem.W.Frag) (mg : Str → Option Value) : Prop where
  «LABEL_LAYERS» : Cst K mg "LABEL_LAYERS" (.tup [.str "active", .str "poly", .str "metal", .str "top"])
  «LAYERS» : Cst K mg "LAYERS" (.tup [.str "well", .str "active", .str "poly", .str "contact", .str "metal", .str "via", .str "top"])
  «MOST_CELLS» : Cst K mg "MOST_CELLS" (.int 60)
  «MOST_CHARACTERS» : Cst K mg "MOST_CHARACTERS" (.int 12)
  «MOST_COPIES» : Cst K mg "MOST_COPIES" (.int 100)
  «MOST_DIGITS» : Cst K mg "MOST_DIGITS" (.int 30)
  «TURNS» : Cst K mg "TURNS" (.tup turnsD)
structure Lt (K : PySem.W.Frag) (mg : Str → Option Value) : Prop where
  «Cell» : Kl K mg "Cell" ["name", "shapes", "labels", "placements"]
  «Library» : Kl K mg "Library" ["_cells", "_shape_counts", "_label_counts", "_depths"]
  «Draft» : Kl K mg "Draft" ["_completed", "_name", "_parts", "_last_word"]
structure Zdt (K : PySem.W.Frag) (w : World) (mg : Str → Option Value) : Prop where
  «READERS» : KdF K w mg "READERS" [("cell", "read_cell_name"), ("shape", "read_shape"), ("label", "read_label"), ("place", "read_placement")]
  «READERS no» : KdNo K w mg "READERS" unkW
  «WORD_COUNTS» : KdT K w mg "WORD_COUNTS" wcT
structure Ktt (K : PySem.W.Frag) (mg : Str → Option Value) : Prop where
  «LINE_ORDER» : KtS K mg "LINE_ORDER" loT
structure Xt (K : PySem.W.Frag) (mg : Str → Option Value) : Prop where
  «InvalidText» : Xe K "InvalidText"
  «m1» : Xm K mg "InvalidText" "ReticleError"
  «i1» : Xi K mg "InvalidText" "InvalidText" true
  «f1» : Xf K "InvalidText" ["line"]
section
variable {P : Program} {w : World} {K : PySem.W.Frag} {mg : Str → Option Value} {base : Heap}
abbrev s_E_InvalidText : Stmt := inClass (top 8) 0
def F_E_InvalidText (cc c : Addr) : NdefX.NF := ⟨"__init__", "InvalidText.__init__", defArgs s_E_InvalidText, defBody s_E_InvalidText, defScope s_E_InvalidText, [("__class__", cc)], c⟩
theorem okE_InvalidText {C fI cc c : Addr} (S : SupK P K mg C fI cc c (F_E_InvalidText cc c)) (T : L2.OexC K C) (hf1 : PySem.W.findIn K (.ref C) "line" = some none) {dV kV doc pm ct oc : Value} {ann od : Option Addr} {osl : Array (Option Value)}
    (lk : K.lookup fI = some ⟨oc, od, .func (PySem.W.fnX "__init__" "InvalidText.__init__" (defArgs s_E_InvalidText) (defBody s_E_InvalidText) (defScope s_E_InvalidText) [("__class__", cc)] dV kV doc pm ann (.ref c) ct), osl⟩) :
    FnOk P w K mg base CX0 1 fI (PySem.W.fnX "__init__" "InvalidText.__init__" (defArgs s_E_InvalidText) (defBody s_E_InvalidText) (defScope s_E_InvalidText) [("__class__", cc)] dV kV doc pm ann (.ref c) ct) ["self", "line"] (spE K C ["line"] R_E_InvalidText) := by
  refine fn_okE1 (F := F_E_InvalidText cc c) (N := ["self", "line", "__class__"]) (ps := ["self", "line"]) (k := 0) S T (NdefX.nscope_by (show NdefX.nscB ["self", "line", "__class__"] ["self", "line"] ["__class__"] (defScope s_E_InvalidText) = true by decide +kernel)) rfl (by simp) (fun ds es h => by cases h; rfl) rfl hf1 rfl rfl rfl (fun _ => rfl) (fun _ => rfl) (fun _ => rfl) (fun _ => rfl) (fun _ => rfl) (fun a ds es hR A outer s H E hr => ?_) lk
  rcases hR with ⟨i, hi⟩
  walk_at "en"
  exact ⟨_, _, (ed_fs (fs_cons ed_str (fs_cons (by first | exact fm_s (ed_var 1 rfl) (by rw [sizeLine_eq]; decide +kernel) | exact fm_i (ed_var 1 rfl) (by exact hi.log)) (fs_cons ed_str fs_nil))) (by simp only [sumL_cons, sumL_nil]; have e1 : ("line " : Str).length = 5 := (by decide +kernel); have e2 : (" is wrong" : Str).length = 9 := (by decide +kernel); have e3 := hi.len; unfold stI at e3; rw [e1, e2, sizeLine_eq]; omega)), (ed_var 1 rfl), (ed_var 0 rfl), rfl⟩
abbrev s_is_box : Stmt := top 2
theorem sc_is_box : FnScope ["box", "x0", "y0", "x1", "y1"] ["box"] (defScope s_is_box) := ⟨rfl, rfl, rfl, by decide +kernel, rfl, by decide +kernel, by decide +kernel⟩
theorem ok_is_box {f : Addr} {fd : FuncData} (F : Fun K "is_box" "is_box" s_is_box f fd) (B : Bt mg) (KC : Kt K mg) (KL : Lt K mg) (WD : Zdt K w mg) (KT : Ktt K mg) (XF : Xt K mg)  :
    FnOk P w K mg base CX0 1 f fd ["box"] (spR K R_is_box) := by
  refine fn_ok (k := 0) F sc_is_box (fun ds d h => by cases h <;> rfl) fun ds d hR cdv A outer s H E hr => ?_
  have nd := sc_is_box.nd
  have hu := hr.units
  cases hR
  walk_at "en"
  refine ws_cons (ws_unpack (ed_var 0 rfl) (dg_tup rfl (dgs_cons (dg_name 1 nd) (dgs_cons (dg_name 2 nd) (dgs_cons (dg_name 3 nd) (dgs_cons (dg_name 4 nd) dgs_nil))))) ?_)
  walk_at "env"
  refine ws_cons (ws_ret (ED.eq (ed_and (ed_cmp (ed_var 1 rfl) (ed_var 3 rfl) (by walk_at "c2")) (fun hb1 => (ed_one (ed_cmp (ed_var 2 rfl) (ed_var 4 rfl) (by walk_at "c2"))))) ?_) (Or.inl rfl))
  rfl
abbrev s_is_move : Stmt := top 11
theorem sc_is_move : FnScope ["move"] ["move"] (defScope s_is_move) := ⟨rfl, rfl, rfl, by decide +kernel, rfl, by decide +kernel, by decide +kernel⟩
theorem ok_is_move {f : Addr} {fd : FuncData} (F : Fun K "is_move" "is_move" s_is_move f fd) (B : Bt mg) (KC : Kt K mg) (KL : Lt K mg) (WD : Zdt K w mg) (KT : Ktt K mg) (XF : Xt K mg)  :
    FnOk P w K mg base CX0 1 f fd ["move"] (spR K R_is_move) := by
  refine fn_ok (k := 0) F sc_is_move (fun ds d h => by cases h <;> rfl) fun ds d hR cdv A outer s H E hr => ?_
  have nd := sc_is_move.nd
  have hu := hr.units
  cases hR
  walk_at "en"
  refine ws_cons (ws_ret (ED.eq (ed_chain ed_int (ed_ix (ed_var 0 rfl) ed_int (by walk_at "ix")) (ed_callB (id := "len") (by rfl) B.«len» bb_len (ad_cons (ed_const KC.«TURNS» (by rfl)) ad_nil) (by walk_at "bc")) (by walk_at "c2") (by walk_at "c2")) ?_) (Or.inl rfl))
  rfl
abbrev s_is_name : Stmt := top 16
theorem sc_is_name : FnScope ["name", "sign"] ["name"] (defScope s_is_name) := ⟨rfl, rfl, rfl, by decide +kernel, rfl, by decide +kernel, by decide +kernel⟩
theorem ok_is_name {f : Addr} {fd : FuncData} (F : Fun K "is_name" "is_name" s_is_name f fd) (B : Bt mg) (KC : Kt K mg) (KL : Lt K mg) (WD : Zdt K w mg) (KT : Ktt K mg) (XF : Xt K mg)  :
    FnOk P w K mg base CX0 1 f fd ["name"] (spR K R_is_name) := by
  refine fn_ok (k := 0) F sc_is_name (fun ds d h => by cases h <;> rfl) fun ds d hR cdv A outer s H E hr => ?_
  have nd := sc_is_name.nd
  have hu := hr.units
  rcases hR with ⟨x, hx⟩
  walk_at "en"
  refine ws_cons (ws_if (td_tw (tw_or (td_not (td_chain ed_int (ed_callB (id := "len") (by rfl) B.«len» bb_len (ad_cons (ed_var 0 rfl) ad_nil) (bc_lenS hx)) (ed_const KC.«MOST_CHARACTERS» (by rfl)) (by walk_at "c2") (by walk_at "c2"))) (fun hb2 => (tw_or1 (td_not (TD.eq (td_chain ed_str (ed_ixS (c := x.cps.toList.getD 0 0) (ed_var 0 rfl) ed_int hx (at_first hb2)) ed_str (by walk_at "c2") (by walk_at "c2")) (chA _))))))) (fun hc1 => ?_) (fun hc1 => ?_))
  · skip
    have hf := name_no hc1
    refine ws_cons (ws_ret (ED.eq ed_bl ?_) (Or.inl rfl))
    rw [hf]
  · skip
    have hf := name_yes hc1
    refine ws_nil ?_
    refine ws_cons (ws_ret (ED.eq (ed_callB (id := "all") (by rfl) B.«all» bb_all (ad_cons (ed_lst (eo_map2 [("sign", 1)] (x.cps.toList) (fun c => D.str (sgn c)) (chB) (D.bl) rfl nd (blkOk_by (N := ["name", "sign"]) (sc := defScope s_is_name) (by decide +kernel)) (id_str (ed_var 0 rfl)) (rfl) (fun c hxm => ⟨_, by rfl, fun _ _ _ _ _ => ⟨(dg_name 1 nd), tds_nil, (ed_or (ED.eq (ed_chain ed_str (ed_var 1 rfl) ed_str (by walk_at "c2") (by walk_at "c2")) (show _ = (D.bl (loB c)) from by exact congrArg D.bl (chA c))) (fun hb4 => (ed_one (ED.eq (ed_chain ed_str (ed_var 1 rfl) ed_str (by walk_at "c2") (by walk_at "c2")) (show _ = (D.bl (decide (48 ≤ c) && decide (c ≤ 57))) from by exact congrArg D.bl (ch0 c))))))⟩⟩) (by rw [Array.length_toList]; exact hx))) ad_nil) (bc_all rfl)) ?_) (Or.inl rfl))
    rw [hf]
abbrev s_is_shape : Stmt := top 20
theorem sc_is_shape : FnScope ["shape", "layer", "box"] ["shape"] (defScope s_is_shape) := ⟨rfl, rfl, rfl, by decide +kernel, rfl, by decide +kernel, by decide +kernel⟩
theorem ok_is_shape {f : Addr} {fd : FuncData} (F : Fun K "is_shape" "is_shape" s_is_shape f fd) (B : Bt mg) (KC : Kt K mg) (KL : Lt K mg) (WD : Zdt K w mg) (KT : Ktt K mg) (XF : Xt K mg) (G_is_box : Fn P w K mg base "is_box" 1 R_is_box) :
    FnOk P w K mg base CX0 2 f fd ["shape"] (spR K R_is_shape) := by
  refine fn_ok (k := 1) F sc_is_shape (fun ds d h => by cases h <;> rfl) fun ds d hR cdv A outer s H E hr => ?_
  have nd := sc_is_shape.nd
  have hu := hr.units
  rcases hR with ⟨s⟩
  walk_at "en"
  refine ws_cons (ws_unpack (ed_var 0 rfl) (dg_tup rfl (dgs_cons (dg_name 1 nd) (dgs_cons (dg_name 2 nd) dgs_nil))) ?_)
  walk_at "env"
  refine ws_cons (ws_ret (ED.eq (ed_and (ed_cmp (ed_var 1 rfl) (ed_const KC.«LAYERS» (by rfl)) (c2_inStr (ys := layN) (.tup _)) (by rfl)) (fun hb1 => (ed_one (ed_call G_is_box (hr.mono (by decide)) (by rfl) (ad_cons (ed_var 2 rfl) ad_nil) (by walk_at "mk"))))) ?_) (Or.inl rfl))
  rfl
abbrev s_is_label : Stmt := top 21
theorem sc_is_label : FnScope ["label"] ["label"] (defScope s_is_label) := ⟨rfl, rfl, rfl, by decide +kernel, rfl, by decide +kernel, by decide +kernel⟩
theorem ok_is_label {f : Addr} {fd : FuncData} (F : Fun K "is_label" "is_label" s_is_label f fd) (B : Bt mg) (KC : Kt K mg) (KL : Lt K mg) (WD : Zdt K w mg) (KT : Ktt K mg) (XF : Xt K mg) (G_is_name : Fn P w K mg base "is_name" 1 R_is_name) :
    FnOk P w K mg base CX0 2 f fd ["label"] (spR K R_is_label) := by
  refine fn_ok (k := 1) F sc_is_label (fun ds d h => by cases h <;> rfl) fun ds d hR cdv A outer s H E hr => ?_
  have nd := sc_is_label.nd
  have hu := hr.units
  rcases hR with ⟨v, hv⟩
  walk_at "en"
  refine ws_cons (ws_ret (ED.eq (ed_and (ed_call G_is_name (hr.mono (by decide)) (by rfl) (ad_cons (ed_ix (ed_var 0 rfl) ed_int (by walk_at "ix")) ad_nil) (by exact .mk _ hv)) (fun hb1 => (ed_one (ed_cmp (ed_ix (ed_var 0 rfl) ed_int (by walk_at "ix")) (ed_const KC.«LABEL_LAYERS» (by rfl)) (c2_inStr (ys := labN) (.tup _)) (by rfl))))) ?_) (Or.inl rfl))
  rfl
abbrev s_is_placement : Stmt := top 22
theorem sc_is_placement : FnScope ["placement", "name", "move", "columns", "rows"] ["placement"] (defScope s_is_placement) := ⟨rfl, rfl, rfl, by decide +kernel, rfl, by decide +kernel, by decide +kernel⟩
theorem ok_is_placement {f : Addr} {fd : FuncData} (F : Fun K "is_placement" "is_placement" s_is_placement f fd) (B : Bt mg) (KC : Kt K mg) (KL : Lt K mg) (WD : Zdt K w mg) (KT : Ktt K mg) (XF : Xt K mg) (G_is_move : Fn P w K mg base "is_move" 1 R_is_move) (G_is_name : Fn P w K mg base "is_name" 1 R_is_name) :
    FnOk P w K mg base CX0 2 f fd ["placement"] (spR K R_is_placement) := by
  refine fn_ok (k := 1) F sc_is_placement (fun ds d h => by cases h <;> rfl) fun ds d hR cdv A outer s H E hr => ?_
  have nd := sc_is_placement.nd
  have hu := hr.units
  rcases hR with ⟨v, hv⟩
  walk_at "en"
  refine ws_cons (ws_unpack (ED.eq (ed_sliceT (ed_var 0 rfl) no_part (some_part ed_int)) (show _ = D.tup [.str v.n, .tup [.int v.t, .int v.dx, .int v.dy], .int v.c, .int v.r] from rfl)) (dg_tup rfl (dgs_cons (dg_name 1 nd) (dgs_cons (dg_name 2 nd) (dgs_cons (dg_name 3 nd) (dgs_cons (dg_name 4 nd) dgs_nil))))) ?_)
  walk_at "env"
  refine ws_cons (ws_ret (ED.eq (ed_and (ed_call G_is_name (hr.mono (by decide)) (by rfl) (ad_cons (ed_var 1 rfl) ad_nil) (by exact .mk _ hv)) (fun hb3 => (ed_and (ed_call G_is_move (hr.mono (by decide)) (by rfl) (ad_cons (ed_var 2 rfl) ad_nil) (by walk_at "mk")) (fun hb2 => (ed_and (ed_chain ed_int (ed_var 3 rfl) (ed_const KC.«MOST_COPIES» (by rfl)) (by walk_at "c2") (by walk_at "c2")) (fun hb1 => (ed_one (ed_chain ed_int (ed_var 4 rfl) (ed_const KC.«MOST_COPIES» (by rfl)) (by walk_at "c2") (by walk_at "c2"))))))))) ?_) (Or.inl rfl))
  rfl
abbrev s_Cell_init : Stmt := inClass (top 23) 0
theorem sc_Cell_init : FnScope ["self", "name", "shapes", "labels", "placements", "shape", "label", "placement"] ["self", "name", "shapes", "labels", "placements"] (defScope s_Cell_init) := ⟨rfl, rfl, rfl, by decide +kernel, rfl, by decide +kernel, by decide +kernel⟩
theorem ok_Cell_init {f : Addr} {fd : FuncData} (F : Fun K "__init__" "Cell.__init__" s_Cell_init f fd) (B : Bt mg) (KC : Kt K mg) (KL : Lt K mg) (WD : Zdt K w mg) (KT : Ktt K mg) (XF : Xt K mg) (G_is_label : Fn P w K mg base "is_label" 2 R_is_label) (G_is_name : Fn P w K mg base "is_name" 1 R_is_name) (G_is_placement : Fn P w K mg base "is_placement" 2 R_is_placement) (G_is_shape : Fn P w K mg base "is_shape" 2 R_is_shape) :
    FnOk P w K mg base CX0 3 f fd ["self", "name", "shapes", "labels", "placements"] (spI K "Cell" R_Cell_init) := by
  refine fn_okI (k := 2) F sc_Cell_init (fun ds ns es h => by cases h; rfl) fun a0 ds ns es hR cdv A outer s H E hr => ?_
  have nd := sc_Cell_init.nd
  have hu := hr.units
  rcases hR with ⟨n, S, L, P, dS, dL, dP, hS, hL, hP, hn, s1, s2, s3, t2, t3, ok⟩
  walk_at "en"
  refine ws_cons (ws_if (td_not (td_truth (ed_call G_is_name (hr.mono (by decide)) (by rfl) (ad_cons (ed_var 1 rfl) ad_nil) (by exact .mk _ hn)) rfl)) (fun hc1 => ?_) (fun hc1 => ?_))
  · skip
    exfalso; rw [ok.n] at hc1; cases hc1
  · skip
    clear hc1
    refine ws_nil ?_
    refine ws_cons (ws_if (td_not (td_truth (ed_callB (id := "all") (by rfl) B.«all» bb_all (ad_cons (ed_lst (eo_map2 [("shape", 5)] (S) (shE) (shB) (D.bl) rfl nd (blkOk_by (N := ["self", "name", "shapes", "labels", "placements", "shape", "label", "placement"]) (sc := defScope s_Cell_init) (by decide +kernel)) (id_seq hS (ed_var 2 rfl)) (rfl) (fun v hxm => ⟨_, by rfl, fun _ _ _ _ _ => ⟨(dg_name 5 nd), tds_nil, (ed_call G_is_shape (hr.mono (by decide)) (by rfl) (ad_cons (ed_var 5 rfl) ad_nil) (by exact .mk _))⟩⟩) (by rw [sizeLine_eq]; omega))) ad_nil) (bc_all rfl)) rfl)) (fun hc2 => ?_) (fun hc2 => ?_))
    · skip
      exfalso; exact al_no ok.s hc2
    · skip
      clear hc2
      refine ws_nil ?_
      refine ws_cons (ws_if (td_not (td_truth (ed_callB (id := "all") (by rfl) B.«all» bb_all (ad_cons (ed_lst (eo_map2 [("label", 6)] (L) (Lab.e) (labB) (D.bl) rfl nd (blkOk_by (N := ["self", "name", "shapes", "labels", "placements", "shape", "label", "placement"]) (sc := defScope s_Cell_init) (by decide +kernel)) (id_seq hL (ed_var 3 rfl)) (rfl) (fun v hxm => ⟨_, by rfl, fun _ _ _ _ _ => ⟨(dg_name 6 nd), tds_nil, (ed_call G_is_label (hr.mono (by decide)) (by rfl) (ad_cons (ed_var 6 rfl) ad_nil) (by exact .mk _ (t2 v hxm)))⟩⟩) (by rw [sizeLine_eq]; omega))) ad_nil) (bc_all rfl)) rfl)) (fun hc4 => ?_) (fun hc4 => ?_))
      · skip
        exfalso; exact al_no ok.l hc4
      · skip
        clear hc4
        refine ws_nil ?_
        refine ws_cons (ws_if (td_not (td_truth (ed_callB (id := "all") (by rfl) B.«all» bb_all (ad_cons (ed_lst (eo_map2 [("placement", 7)] (P) (Pla.e) (plaB) (D.bl) rfl nd (blkOk_by (N := ["self", "name", "shapes", "labels", "placements", "shape", "label", "placement"]) (sc := defScope s_Cell_init) (by decide +kernel)) (id_seq hP (ed_var 4 rfl)) (rfl) (fun v hxm => ⟨_, by rfl, fun _ _ _ _ _ => ⟨(dg_name 7 nd), tds_nil, (ed_call G_is_placement (hr.mono (by decide)) (by rfl) (ad_cons (ed_var 7 rfl) ad_nil) (by exact .mk _ (t3 v hxm)))⟩⟩) (by rw [sizeLine_eq]; omega))) ad_nil) (bc_all rfl)) rfl)) (fun hc6 => ?_) (fun hc6 => ?_))
        · skip
          exfalso; exact al_no ok.p hc6
        · skip
          clear hc6
          refine ws_nil ?_
          refine ws_cons (ws_setF 0 KL.«Cell» rfl (ed_var 1 rfl) ?_)
          simp only [List.cons_append, List.nil_append]
          walk_at "env"
          refine ws_cons (ws_setF 0 KL.«Cell» rfl (ed_callT (T := "tuple") (by rfl) B.«tuple» bb_tuple (ad_cons (ed_var 2 rfl) ad_nil) ((bc_tupSeq hS))) ?_)
          simp only [List.cons_append, List.nil_append]
          walk_at "env"
          refine ws_cons (ws_setF 0 KL.«Cell» rfl (ed_callT (T := "tuple") (by rfl) B.«tuple» bb_tuple (ad_cons (ed_var 3 rfl) ad_nil) ((bc_tupSeq hL))) ?_)
          simp only [List.cons_append, List.nil_append]
          walk_at "env"
          refine ws_cons (ws_setF 0 KL.«Cell» rfl (ed_callT (T := "tuple") (by rfl) B.«tuple» bb_tuple (ad_cons (ed_var 4 rfl) ad_nil) ((bc_tupSeq hP))) ?_)
          simp only [List.cons_append, List.nil_append]
          walk_at "env"
          refine ws_nil ?_
          exact ⟨_, _, rfl, rfl, fun _ _ h => h⟩
abbrev s_placed_count : Stmt := top 24
theorem sc_placed_count : FnScope ["placements", "counts", "placement"] ["placements", "counts"] (defScope s_placed_count) := ⟨rfl, rfl, rfl, by decide +kernel, rfl, by decide +kernel, by decide +kernel⟩
theorem ok_placed_count {f : Addr} {fd : FuncData} (F : Fun K "placed_count" "placed_count" s_placed_count f fd) (B : Bt mg) (KC : Kt K mg) (KL : Lt K mg) (WD : Zdt K w mg) (KT : Ktt K mg) (XF : Xt K mg)  :
    FnOk P w K mg base CX0 1 f fd ["placements", "counts"] (spR K R_placed_count) := by
  refine fn_ok (k := 0) F sc_placed_count (fun ds d h => by cases h <;> rfl) fun ds d hR cdv A outer s H E hr => ?_
  have nd := sc_placed_count.nd
  have hu := hr.units
  rcases hR with ⟨R, f, P, old, bd, hl⟩
  walk_at "en"
  refine ws_cons (ws_ret (ED.eq (ed_callB (id := "sum") (by rfl) B.«sum» bb_sum (ad_cons (ed_lst (eo_map2 [("placement", 2)] (P) (Pla.e) (fun p : Pla => p.c * p.r * cnt f R p.n) (D.int) rfl nd (blkOk_by (N := ["placements", "counts", "placement"]) (sc := defScope s_placed_count) (by decide +kernel)) (id_tup (ed_var 0 rfl)) (rfl) (fun v hxm => by have h1 := bd v hxm; have h2 := mul_100 h1; exact ⟨_, by rfl, fun _ _ _ _ _ => ⟨(dg_name 2 nd), tds_nil, (ed_bin (ed_bin (ed_ix (ed_var 2 rfl) ed_int (by walk_at "ix")) (ed_ix (ed_var 2 rfl) ed_int (by walk_at "ix")) (by walk_at "b2")) (ed_dix hu (ed_var 1 rfl) (ed_ix (ed_var 2 rfl) ed_int (by walk_at "ix")) (k0 := .inr v.n) (lk_cnt (old v hxm))) (by walk_at "b2"))⟩⟩) (by rw [sizeLine_eq]; omega))) ad_nil) (bc_sum rfl)) ?_) (Or.inl rfl))
  rfl
abbrev s_Library_init : Stmt := inClass (top 25) 0
theorem sc_Library_init : FnScope ["self", "cells", "cell"] ["self", "cells"] (defScope s_Library_init) := ⟨rfl, rfl, rfl, by decide +kernel, rfl, by decide +kernel, by decide +kernel⟩
theorem ok_Library_init {f : Addr} {fd : FuncData} (F : Fun K "__init__" "Library.__init__" s_Library_init f fd) (B : Bt mg) (KC : Kt K mg) (KL : Lt K mg) (WD : Zdt K w mg) (KT : Ktt K mg) (XF : Xt K mg) (G_Library_append_cell : FnML P w K mg base "Library" "_append_cell" 2 R_Library_append_cell) :
    FnOk P w K mg base CX0 3 f fd ["self", "cells"] (spI K "Library" R_Library_init) := by
  refine fn_okI (k := 2) F sc_Library_init (fun ds ns es h => by cases h; rfl) fun a0 ds ns es hR cdv A outer s H E hr => ?_
  have nd := sc_Library_init.nd
  have hu := hr.units
  rcases hR with ⟨dd, cs, hsd, ok, hcl⟩
  walk_at "en"
  refine ws_cons (ws_if (td_cmp (ed_callB (id := "len") (by rfl) B.«len» bb_len (ad_cons (ed_var 1 rfl) ad_nil) ((bc_lenSeq hsd))) (ed_const KC.«MOST_CELLS» (by rfl)) (by walk_at "c2")) (fun hc1 => ?_) (fun hc1 => ?_))
  · skip
    exfalso; have h := of_decide_eq_true hc1; rw [List.length_map] at h; omega
  · skip
    clear hc1
    refine ws_nil ?_
    refine ws_cons (ws_setFO 0 KL.«Library» rfl eo_dk fun q1 => ?_)
    simp only [List.cons_append, List.nil_append]
    walk_at "env"
    refine ws_cons (ws_setFO 0 KL.«Library» rfl eo_dk fun q2 => ?_)
    simp only [List.cons_append, List.nil_append]
    walk_at "env"
    refine ws_cons (ws_setFO 0 KL.«Library» rfl eo_dk fun q3 => ?_)
    simp only [List.cons_append, List.nil_append]
    walk_at "env"
    refine ws_cons (ws_setFO 0 KL.«Library» rfl eo_dk fun q4 => ?_)
    simp only [List.cons_append, List.nil_append]
    walk_at "env"
    refine ws_cons (ws_forU (cs) (celR) rfl (id_seq hsd (ed_var 1 rfl)) (by rfl) (U := Sl) (fun i u => [(0, .ox (libC a0 q1 q2 q3 q4 (libL (cs.take i))) (.ad a0)), (2, u)]) (fun r => (r.getD 2 .no)) (fun _ => True) (rfl) (True.intro) ?_ ?_)
    · intro i0 x u0 hx0 hP0
      refine ⟨_, _, (dg_name 2 nd), ?_⟩
      walk_at "env"
      refine ws_cons (ws_exprP (ep_methW 0 G_Library_append_cell (hr.mono (by decide)) rfl (List.mem_iff_getElem?.mpr ⟨0, rfl⟩) (ed_varX 0 rfl) (ad_cons (ed_var 2 rfl) ad_nil) (.mk a0 q1 q2 q3 q4 _ x (ok i0 x hx0) (by rw [libL_len, List.length_take]; omega))) ?_)
      rintro _ _ ⟨_, ⟨rfl, rfl⟩, rfl⟩
      walk_at "env"
      refine ws_nil ?_
      refine ⟨?_, True.intro⟩
      rw [List.take_add_one, hx0]
      simp only [Option.toList]
      rw [libL_snoc]
      rfl
    · intro u0 hP0
      walk_at "env"
      rw [List.take_length]
      refine ws_shareF 0 0 rfl rfl ?_
      walk_at "env"
      refine ws_shareF 0 1 rfl rfl ?_
      walk_at "env"
      refine ws_shareF 0 2 rfl rfl ?_
      walk_at "env"
      refine ws_shareF 0 3 rfl rfl ?_
      walk_at "env"
      refine ws_nil ?_
      exact ⟨_, _, rfl, rfl, fun _ _ h => h⟩
abbrev s_Library_append_cell : Stmt := inClass (top 25) 1
theorem sc_Library_append_cell : FnScope ["self", "cell", "placement", "shape_count", "label_count", "depth"] ["self", "cell"] (defScope s_Library_append_cell) := ⟨rfl, rfl, rfl, by decide +kernel, rfl, by decide +kernel, by decide +kernel⟩
theorem ok_Library_append_cell {f : Addr} {fd : FuncData} (F : Fun K "_append_cell" "Library._append_cell" s_Library_append_cell f fd) (B : Bt mg) (KC : Kt K mg) (KL : Lt K mg) (WD : Zdt K w mg) (KT : Ktt K mg) (XF : Xt K mg) (G_placed_count : Fn P w K mg base "placed_count" 1 R_placed_count) :
    FnOk P w K mg base CX0 2 f fd ["self", "cell"] (spL K R_Library_append_cell) := by
  refine fn_okL (k := 1) F sc_Library_append_cell (fun a cs ds Ψ h => by cases h; rfl) fun a0 cs0 ds Ψ hR cdv A outer s H E hr => ?_
  have nd := sc_Library_append_cell.nd
  have hu := hr.units
  rcases hR with ⟨p, q, s, t, R, c, can, hRl⟩
  walk_at "en"
  refine ws_cons (ws_if (td_show 0 (libD R) rfl (fun _ _ v h r => lib_show v h r) (td_cmp (ed_fld 0 KL.«Cell» (ed_var 1 rfl)) (ed_fld 0 KL.«Library» (ed_var 0 rfl)) (c2_inDk hu (k0 := .inr c.n) rfl) (by rfl))) (fun hc1 => ?_) (fun hc1 => ?_))
  · skip
    exact absurd (has_keyL.mp hc1) can.new
  · skip
    clear hc1
    refine ws_nil ?_
    refine ws_cons (ws_forU (c.P) (Pla.e) rfl (id_tup (ed_fld 3 KL.«Cell» (ed_var 1 rfl))) (by rfl) (U := Sl) (fun i u => [(2, u)]) (fun r => (r.getD 2 .no)) (fun _ => True) (rfl) (True.intro) ?_ ?_)
    · intro i0 v u0 hx0 hP0
      have hvm := List.mem_of_getElem? hx0
      refine ⟨_, _, (dg_name 2 nd), ?_⟩
      walk_at "env"
      refine ws_cons (ws_if (td_show 0 (libD R) rfl (fun _ _ v h r => lib_show v h r) (td_cmp (ed_ix (ed_var 2 rfl) ed_int (by walk_at "ix")) (ed_fld 0 KL.«Library» (ed_var 0 rfl)) (c2_notInDk hu (k0 := .inr v.n) rfl) (by rfl))) (fun hc2 => ?_) (fun hc2 => ?_))
      · skip
        exfalso; rw [has_keyL.mpr (can.old v hvm)] at hc2; cases hc2
      · skip
        clear hc2
        refine ws_nil ?_
        refine ws_nil ?_
        exact ⟨rfl, True.intro⟩
    · intro u0 hP0
      walk_at "env"
      skip
      refine ws_cons (ws_set 3 nd (ed_show 0 (libD R) rfl (fun _ _ v h r => lib_show v h r) (ed_bin (ed_callB (id := "len") (by rfl) B.«len» bb_len (ad_cons (ed_fld 1 KL.«Cell» (ed_var 1 rfl)) ad_nil) (by walk_at "bc")) (ed_call G_placed_count (hr.mono (by decide)) (by rfl) (ad_cons (ed_fld 3 KL.«Cell» (ed_var 1 rfl)) (ad_cons (ed_fld 1 KL.«Library» (ed_var 0 rfl)) ad_nil)) (by first | exact .mk R LRow.sc c.P can.old can.bd can.few.2.2 | exact .mk R LRow.lc c.P can.old can.bd can.few.2.2)) (by walk_at "b2"))) ?_)
      walk_at "env"
      refine ws_cons (ws_set 4 nd (ed_show 0 (libD R) rfl (fun _ _ v h r => lib_show v h r) (ed_bin (ed_callB (id := "len") (by rfl) B.«len» bb_len (ad_cons (ed_fld 2 KL.«Cell» (ed_var 1 rfl)) ad_nil) (by walk_at "bc")) (ed_call G_placed_count (hr.mono (by decide)) (by rfl) (ad_cons (ed_fld 3 KL.«Cell» (ed_var 1 rfl)) (ad_cons (ed_fld 2 KL.«Library» (ed_var 0 rfl)) ad_nil)) (by first | exact .mk R LRow.sc c.P can.old can.bd can.few.2.2 | exact .mk R LRow.lc c.P can.old can.bd can.few.2.2)) (by walk_at "b2"))) ?_)
      walk_at "env"
      refine ws_cons (ws_set 5 nd (ed_show 0 (libD R) rfl (fun _ _ v h r => lib_show v h r) (ed_maxDef rfl hu (by rfl) B.«max» (ed_lst (eo_map2 [("placement", 2)] (c.P) (Pla.e) (fun p : Pla => cnt LRow.dp R p.n + 1) (D.int) rfl nd (blkOk_by (N := ["self", "cell", "placement", "shape_count", "label_count", "depth"]) (sc := defScope s_Library_append_cell) (by decide +kernel)) (id_tup (ed_fld 3 KL.«Cell» (ed_var 1 rfl))) (rfl) (fun v hxm => ⟨_, by rfl, fun _ _ _ _ _ => ⟨(dg_name 2 nd), tds_nil, (ed_bin (ed_dix hu (ed_fld 3 KL.«Library» (ed_var 0 rfl)) (ed_ix (ed_var 2 rfl) ed_int (by walk_at "ix")) (k0 := .inr v.n) (lk_cnt (can.old v hxm))) ed_int (by walk_at "b2"))⟩⟩) (by have := can.few; rw [sizeLine_eq]; omega))))) ?_)
      walk_at "env"
      unfold libC
      refine ws_cons (ws_dputI 0 1 (k0 := .inr c.n) hu rfl rfl (ed_fldC 0 0 KL.«Library» rfl (List.mem_iff_getElem?.mpr ⟨0, rfl⟩) (ed_varX 0 rfl)) (ed_fld 0 KL.«Cell» (ed_var 1 rfl)) (ed_var 1 rfl) (fun h => can.new (mem_keyL.mp h)) (by rw [keyL_len, sizeLine_eq]; omega) ?_)
      walk_at "env"
      refine ws_cons (ws_dputI 0 2 (k0 := .inr c.n) hu rfl rfl (ed_fldC 0 1 KL.«Library» rfl (List.mem_iff_getElem?.mpr ⟨0, rfl⟩) (ed_varX 0 rfl)) (ed_fld 0 KL.«Cell» (ed_var 1 rfl)) (ed_var 3 rfl) (fun h => can.new (mem_keyL.mp h)) (by rw [keyL_len, sizeLine_eq]; omega) ?_)
      walk_at "env"
      refine ws_cons (ws_dputI 0 3 (k0 := .inr c.n) hu rfl rfl (ed_fldC 0 2 KL.«Library» rfl (List.mem_iff_getElem?.mpr ⟨0, rfl⟩) (ed_varX 0 rfl)) (ed_fld 0 KL.«Cell» (ed_var 1 rfl)) (ed_var 4 rfl) (fun h => can.new (mem_keyL.mp h)) (by rw [keyL_len, sizeLine_eq]; omega) ?_)
      walk_at "env"
      refine ws_cons (ws_dputI 0 4 (k0 := .inr c.n) hu rfl rfl (ed_fldC 0 3 KL.«Library» rfl (List.mem_iff_getElem?.mpr ⟨0, rfl⟩) (ed_varX 0 rfl)) (ed_fld 0 KL.«Cell» (ed_var 1 rfl)) (ed_var 5 rfl) (fun h => can.new (mem_keyL.mp h)) (by rw [keyL_len, sizeLine_eq]; omega) ?_)
      walk_at "env"
      refine ws_nil ?_
      refine Or.inr ⟨_, _, _, rfl, rfl, ?_⟩
      constructor
      · simp [libC, stepL, keyL]
      · first | rfl | trivial
abbrev s_Library_cell : Stmt := inClass (top 25) 3
theorem sc_Library_cell : FnScope ["self", "name"] ["self", "name"] (defScope s_Library_cell) := ⟨rfl, rfl, rfl, by decide +kernel, rfl, by decide +kernel, by decide +kernel⟩
theorem ok_Library_cell {f : Addr} {fd : FuncData} (F : Fun K "cell" "Library.cell" s_Library_cell f fd) (B : Bt mg) (KC : Kt K mg) (KL : Lt K mg) (WD : Zdt K w mg) (KT : Ktt K mg) (XF : Xt K mg) (G_Library_known : FnM P w K mg base "Library" "_known" 1 R_Library_known) :
    FnOk P w K mg base CX0 2 f fd ["self", "name"] (spR K R_Library_cell) := by
  refine fn_ok (k := 1) F sc_Library_cell (fun ds d h => by cases h <;> rfl) fun ds d hR cdv A outer s H E hr => ?_
  have nd := sc_Library_cell.nd
  have hu := hr.units
  rcases hR with ⟨R, n, r, hlk⟩
  walk_at "en"
  refine ws_cons (ws_ret (ED.eq (ed_meth G_Library_known (hr.mono (by decide)) (ed_var 0 rfl) (ad_cons (ed_fld 0 KL.«Library» (ed_var 0 rfl)) (ad_cons (ed_var 1 rfl) ad_nil)) (by exact .mk _ _ _ _ _ hlk)) ?_) (Or.inl rfl))
  rfl
abbrev s_Library_shape_count : Stmt := inClass (top 25) 4
theorem sc_Library_shape_count : FnScope ["self", "name"] ["self", "name"] (defScope s_Library_shape_count) := ⟨rfl, rfl, rfl, by decide +kernel, rfl, by decide +kernel, by decide +kernel⟩
theorem ok_Library_shape_count {f : Addr} {fd : FuncData} (F : Fun K "shape_count" "Library.shape_count" s_Library_shape_count f fd) (B : Bt mg) (KC : Kt K mg) (KL : Lt K mg) (WD : Zdt K w mg) (KT : Ktt K mg) (XF : Xt K mg) (G_Library_known : FnM P w K mg base "Library" "_known" 1 R_Library_known) :
    FnOk P w K mg base CX0 2 f fd ["self", "name"] (spR K R_Library_shape_count) := by
  refine fn_ok (k := 1) F sc_Library_shape_count (fun ds d h => by cases h <;> rfl) fun ds d hR cdv A outer s H E hr => ?_
  have nd := sc_Library_shape_count.nd
  have hu := hr.units
  rcases hR with ⟨R, n, hn⟩
  walk_at "en"
  refine ws_cons (ws_ret (ED.eq (ed_meth G_Library_known (hr.mono (by decide)) (ed_var 0 rfl) (ad_cons (ed_fld 1 KL.«Library» (ed_var 0 rfl)) (ad_cons (ed_var 1 rfl) ad_nil)) (by exact .mk _ _ _ _ _ (lk_cnt hn))) ?_) (Or.inl rfl))
  rfl
abbrev s_Library_label_count : Stmt := inClass (top 25) 5
theorem sc_Library_label_count : FnScope ["self", "name"] ["self", "name"] (defScope s_Library_label_count) := ⟨rfl, rfl, rfl, by decide +kernel, rfl, by decide +kernel, by decide +kernel⟩
theorem ok_Library_label_count {f : Addr} {fd : FuncData} (F : Fun K "label_count" "Library.label_count" s_Library_label_count f fd) (B : Bt mg) (KC : Kt K mg) (KL : Lt K mg) (WD : Zdt K w mg) (KT : Ktt K mg) (XF : Xt K mg) (G_Library_known : FnM P w K mg base "Library" "_known" 1 R_Library_known) :
    FnOk P w K mg base CX0 2 f fd ["self", "name"] (spR K R_Library_label_count) := by
  refine fn_ok (k := 1) F sc_Library_label_count (fun ds d h => by cases h <;> rfl) fun ds d hR cdv A outer s H E hr => ?_
  have nd := sc_Library_label_count.nd
  have hu := hr.units
  rcases hR with ⟨R, n, hn⟩
  walk_at "en"
  refine ws_cons (ws_ret (ED.eq (ed_meth G_Library_known (hr.mono (by decide)) (ed_var 0 rfl) (ad_cons (ed_fld 2 KL.«Library» (ed_var 0 rfl)) (ad_cons (ed_var 1 rfl) ad_nil)) (by exact .mk _ _ _ _ _ (lk_cnt hn))) ?_) (Or.inl rfl))
  rfl
abbrev s_Library_depth : Stmt := inClass (top 25) 6
theorem sc_Library_depth : FnScope ["self", "name"] ["self", "name"] (defScope s_Library_depth) := ⟨rfl, rfl, rfl, by decide +kernel, rfl, by decide +kernel, by decide +kernel⟩
theorem ok_Library_depth {f : Addr} {fd : FuncData} (F : Fun K "depth" "Library.depth" s_Library_depth f fd) (B : Bt mg) (KC : Kt K mg) (KL : Lt K mg) (WD : Zdt K w mg) (KT : Ktt K mg) (XF : Xt K mg) (G_Library_known : FnM P w K mg base "Library" "_known" 1 R_Library_known) :
    FnOk P w K mg base CX0 2 f fd ["self", "name"] (spR K R_Library_depth) := by
  refine fn_ok (k := 1) F sc_Library_depth (fun ds d h => by cases h <;> rfl) fun ds d hR cdv A outer s H E hr => ?_
  have nd := sc_Library_depth.nd
  have hu := hr.units
  rcases hR with ⟨R, n, hn⟩
  walk_at "en"
  refine ws_cons (ws_ret (ED.eq (ed_meth G_Library_known (hr.mono (by decide)) (ed_var 0 rfl) (ad_cons (ed_fld 3 KL.«Library» (ed_var 0 rfl)) (ad_cons (ed_var 1 rfl) ad_nil)) (by exact .mk _ _ _ _ _ (lk_cnt hn))) ?_) (Or.inl rfl))
  rfl
abbrev s_Library_known : Stmt := inClass (top 25) 7
theorem sc_Library_known : FnScope ["self", "table", "name"] ["self", "table", "name"] (defScope s_Library_known) := ⟨rfl, rfl, rfl, by decide +kernel, rfl, by decide +kernel, by decide +kernel⟩
theorem ok_Library_known {f : Addr} {fd : FuncData} (F : Fun K "_known" "Library._known" s_Library_known f fd) (B : Bt mg) (KC : Kt K mg) (KL : Lt K mg) (WD : Zdt K w mg) (KT : Ktt K mg) (XF : Xt K mg)  :
    FnOk P w K mg base CX0 1 f fd ["self", "table", "name"] (spR K R_Library_known) := by
  refine fn_ok (k := 0) F sc_Library_known (fun ds d h => by cases h <;> rfl) fun ds d hR cdv A outer s H E hr => ?_
  have nd := sc_Library_known.nd
  have hu := hr.units
  rcases hR with ⟨fd, ks, es, n, d, hlk⟩
  walk_at "en"
  refine ws_cons (ws_if (td_cmp (ed_var 2 rfl) (ed_var 1 rfl) (c2_notInDk hu (k0 := .inr n) rfl) (by rfl)) (fun hc1 => ?_) (fun hc1 => ?_))
  · skip
    exfalso; rw [lookK_has hlk] at hc1; cases hc1
  · skip
    clear hc1
    refine ws_nil ?_
    refine ws_cons (ws_ret (ED.eq (ed_dix hu (ed_var 1 rfl) (ed_var 2 rfl) (k0 := .inr n) hlk) ?_) (Or.inl rfl))
    rfl
abbrev s_is_integer : Stmt := top 28
theorem sc_is_integer : FnScope ["word", "digits"] ["word"] (defScope s_is_integer) := ⟨rfl, rfl, rfl, by decide +kernel, rfl, by decide +kernel, by decide +kernel⟩
theorem ok_is_integer {f : Addr} {fd : FuncData} (F : Fun K "is_integer" "is_integer" s_is_integer f fd) (B : Bt mg) (KC : Kt K mg) (KL : Lt K mg) (WD : Zdt K w mg) (KT : Ktt K mg) (XF : Xt K mg)  :
    FnOk P w K mg base CX0 1 f fd ["word"] (spR K R_is_integer) := by
  refine fn_ok (k := 0) F sc_is_integer (fun ds d h => by cases h <;> rfl) fun ds d hR cdv A outer s H E hr => ?_
  have nd := sc_is_integer.nd
  have hu := hr.units
  rcases hR with ⟨w, hl⟩
  have hgl := dgW_len w
  walk_at "en"
  refine ws_cons (ws_set 1 nd (ED.eq (ed_ifv (td_truth (ed_starts (ed_var 0 rfl) ed_str) rfl) (fun hc1 => (ed_sliceS (ed_var 0 rfl) (by rw [sizeLine_eq]; omega) (some_part ed_int) no_part)) (fun hc1 => (ed_var 0 rfl))) (show _ = (D.str (dgW w)) from by exact dgW_if w)) ?_)
  walk_at "env"
  refine ws_cons (ws_if (td_tw (tw_or (td_not (td_truth (ed_isdigit (ed_var 1 rfl)) rfl)) (fun hb3 => (tw_or1 (td_cmp (ed_callB (id := "len") (by rfl) B.«len» bb_len (ad_cons (ed_var 1 rfl) ad_nil) (bc_lenS (by rw [sizeLine_eq]; omega))) (ed_const KC.«MOST_DIGITS» (by rfl)) (by walk_at "c2")))))) (fun hc2 => ?_) (fun hc2 => ?_))
  · skip
    have hno : (Txt.isdigit (dgW w) && decide ((dgW w).length ≤ 30)) = false := by
      cases e : Txt.isdigit (dgW w) with
      | false => rfl
      | true => rw [e] at hc2; simp at hc2; simp; omega
    refine ws_cons (ws_ret (ED.eq ed_bl ?_) (Or.inl rfl))
    first | (rw [isI_no hno]) | (rw [isI_if hyes]; rfl)
  · skip
    have hi9 : Txt.isdigit (dgW w) = true ∧ (dgW w).length ≤ 30 := by
      cases e : Txt.isdigit (dgW w) with
      | false => rw [e] at hc2; simp at hc2
      | true => rw [e] at hc2; simp at hc2; exact ⟨rfl, by omega⟩
    have hyes : (Txt.isdigit (dgW w) && decide ((dgW w).length ≤ 30)) = true := by rw [hi9.1, decide_eq_true hi9.2]; rfl
    refine ws_nil ?_
    refine ws_cons (ws_ret (ED.eq (ed_or (ed_cmp (ed_var 0 rfl) ed_str (by walk_at "c2")) (fun hb4 => (ed_one (ed_cmp (ed_ixS (c := (dgW w).cps.toList.getD 0 0) (ed_var 1 rfl) ed_int (by rw [sizeLine_eq]; omega) (at_hd hi9.1)) ed_str (by walk_at "c2"))))) ?_) (Or.inl rfl))
    first | (rw [isI_no hno]) | (rw [isI_if hyes]; rfl)
abbrev s_read_integers : Stmt := top 29
theorem sc_read_integers : FnScope ["words", "word"] ["words"] (defScope s_read_integers) := ⟨rfl, rfl, rfl, by decide +kernel, rfl, by decide +kernel, by decide +kernel⟩
theorem ok_read_integers {f : Addr} {fd : FuncData} (F : Fun K "read_integers" "read_integers" s_read_integers f fd) (B : Bt mg) (KC : Kt K mg) (KL : Lt K mg) (WD : Zdt K w mg) (KT : Ktt K mg) (XF : Xt K mg) (G_is_integer : Fn P w K mg base "is_integer" 1 R_is_integer) :
    FnOk P w K mg base CX0 2 f fd ["words"] (spR K R_read_integers) := by
  refine fn_ok (k := 1) F sc_read_integers (fun ds d h => by cases h <;> rfl) fun ds d hR cdv A outer s H E hr => ?_
  have nd := sc_read_integers.nd
  have hu := hr.units
  rcases hR with ⟨ws, o, r, hs, hl⟩
  walk_at "en"
  refine ws_cons (ws_if (td_not (td_truth (ed_callB (id := "all") (by rfl) B.«all» bb_all (ad_cons (ed_lst (eo_map2 [("word", 1)] (ws) (D.str) (isIB) (D.bl) rfl nd (blkOk_by (N := ["words", "word"]) (sc := defScope s_read_integers) (by decide +kernel)) (id_list (ed_var 0 rfl)) (rfl) (fun w hxm => ⟨_, by rfl, fun _ _ _ _ _ => ⟨(dg_name 1 nd), tds_nil, (ed_call G_is_integer (hr.mono (by decide)) (by rfl) (ad_cons (ed_var 1 rfl) ad_nil) (by exact .gen _ (hs w hxm)))⟩⟩) (by rw [sizeLine_eq]; omega))) ad_nil) (bc_all rfl)) rfl)) (fun hc1 => ?_) (fun hc1 => ?_))
  · skip
    obtain rfl : o = none := by
      rw [r.all] at hc1
      cases o with
      | none => rfl
      | some ns => cases hc1
    refine ws_cons (ws_ret (ED.eq ed_non ?_) (Or.inl rfl))
    first | rfl | (rw [List.map_id]; rfl)
  · skip
    obtain ⟨ns, rfl⟩ : ∃ ns, o = some ns := by
      rw [r.all] at hc1
      cases o with
      | none => cases hc1
      | some ns => exact ⟨ns, rfl⟩
    obtain ⟨rfl, hz⟩ := r.some
    refine ws_nil ?_
    refine ws_cons (ws_ret (ED.eq (ed_callT (T := "tuple") (by rfl) B.«tuple» bb_tuple (ad_cons (ed_lst (eo_map2 [("word", 1)] (ns) (fun i : Int => D.str (stI i)) (id) (D.int) rfl nd (blkOk_by (N := ["words", "word"]) (sc := defScope s_read_integers) (by decide +kernel)) (id_list (ed_var 0 rfl)) (by rw [List.map_map]; rfl) (fun i hxm => ⟨_, by rfl, fun _ _ _ _ _ => ⟨(dg_name 1 nd), tds_nil, (ed_callT (T := "int") (by rfl) B.«int» bb_int (ad_cons (ed_var 1 rfl) ad_nil) (bc_intS (hz i hxm).int (Nat.le_trans (hz i hxm).len (by decide))))⟩⟩) (by rw [sizeLine_eq]; rw [List.length_map] at hl; omega))) ad_nil) (by walk_at "bc")) ?_) (Or.inl rfl))
    first | rfl | (rw [List.map_id]; rfl)
abbrev s_read_cell_name : Stmt := top 33
theorem sc_read_cell_name : FnScope ["words"] ["words"] (defScope s_read_cell_name) := ⟨rfl, rfl, rfl, by decide +kernel, rfl, by decide +kernel, by decide +kernel⟩
theorem ok_read_cell_name {f : Addr} {fd : FuncData} (F : Fun K "read_cell_name" "read_cell_name" s_read_cell_name f fd) (B : Bt mg) (KC : Kt K mg) (KL : Lt K mg) (WD : Zdt K w mg) (KT : Ktt K mg) (XF : Xt K mg) (G_is_name : Fn P w K mg base "is_name" 1 R_is_name) :
    FnOk P w K mg base CX0 2 f fd ["words"] (spR K R_read_cell_name) := by
  refine fn_ok (k := 1) F sc_read_cell_name (fun ds d h => by cases h <;> rfl) fun ds d hR cdv A outer s H E hr => ?_
  have nd := sc_read_cell_name.nd
  have hu := hr.units
  
  walk_at "en"
  rcases hR with ⟨n, hn⟩ | ⟨n, hn, hl⟩
  · skip
    refine ws_cons (ws_ret (ED.eq (ED.eq (ed_ifv (td_truth (ed_call G_is_name (hr.mono (by decide)) (by rfl) (ad_cons (ed_ix (ed_var 0 rfl) ed_int (by walk_at "ix")) ad_nil) (by exact .mk _ (by have := nameB_len hn; rw [sizeLine_eq]; omega))) rfl) (fun hc1 => (ed_ix (ed_var 0 rfl) ed_int (by walk_at "ix"))) (fun hc1 => ed_non)) (show _ = (D.str n) from by rw [if_pos hn])) ?_) (Or.inl rfl))
    rfl
  · skip
    refine ws_cons (ws_ret (ED.eq (ED.eq (ed_ifv (td_truth (ed_call G_is_name (hr.mono (by decide)) (by rfl) (ad_cons (ed_ix (ed_var 0 rfl) ed_int (by walk_at "ix")) ad_nil) (by exact .mk _ hl)) rfl) (fun hc2 => (ed_ix (ed_var 0 rfl) ed_int (by walk_at "ix"))) (fun hc2 => ed_non)) (show _ = (D.non) from by rw [if_neg (by rw [hn]; decide)])) ?_) (Or.inl rfl))
    rfl
abbrev s_read_shape : Stmt := top 34
theorem sc_read_shape : FnScope ["words", "box", "shape"] ["words"] (defScope s_read_shape) := ⟨rfl, rfl, rfl, by decide +kernel, rfl, by decide +kernel, by decide +kernel⟩
theorem ok_read_shape {f : Addr} {fd : FuncData} (F : Fun K "read_shape" "read_shape" s_read_shape f fd) (B : Bt mg) (KC : Kt K mg) (KL : Lt K mg) (WD : Zdt K w mg) (KT : Ktt K mg) (XF : Xt K mg) (G_is_shape : Fn P w K mg base "is_shape" 2 R_is_shape) (G_read_integers : Fn P w K mg base "read_integers" 2 R_read_integers) :
    FnOk P w K mg base CX0 3 f fd ["words"] (spR K R_read_shape) := by
  refine fn_ok (k := 2) F sc_read_shape (fun ds d h => by cases h <;> rfl) fun ds d hR cdv A outer s H E hr => ?_
  have nd := sc_read_shape.nd
  have hu := hr.units
  
  walk_at "en"
  rcases hR with ⟨s, h⟩ | ⟨l, a, b, c, e, o, r, hb, hs⟩
  · skip
    walk_at "en"
    refine ws_cons (ws_set 1 nd (ed_call G_read_integers (hr.mono (by decide)) (by rfl) (ad_cons (ED.eq (ed_lst (eo_slice (ed_var 0 rfl) (some_part ed_int) no_part)) (show _ = (D.lst (([s.2.a, s.2.b, s.2.c, s.2.d] : List Int).map fun i => D.str (stI i))) from by rfl)) ad_nil) (by exact .mk [s.2.a, s.2.b, s.2.c, s.2.d] (by intro i hi; have hi : i = s.2.a ∨ i = s.2.b ∨ i = s.2.c ∨ i = s.2.d := (by simpa using hi); rcases hi with rfl | rfl | rfl | rfl <;> first | exact h.a | exact h.b | exact h.c | exact h.d) (by simp))) ?_)
    walk_at "env"
    refine ws_cons (ws_if (td_cmp (ed_var 1 rfl) ed_non (by walk_at "c2")) (fun hc1 => ?_) (fun hc1 => ?_))
    · skip
      cases hc1
    · skip
      clear hc1
      refine ws_nil ?_
      refine ws_cons (ws_set 2 nd (ed_tup (ad_cons (ed_ix (ed_var 0 rfl) ed_int (by walk_at "ix")) (ad_cons (ed_var 1 rfl) ad_nil))) ?_)
      walk_at "env"
      refine ws_cons (ws_ret (ED.eq (ED.eq (ed_ifv (td_truth (ed_call G_is_shape (hr.mono (by decide)) (by rfl) (ad_cons (ed_var 2 rfl) ad_nil) (by exact .mk s)) rfl) (fun hc2 => (ed_var 2 rfl)) (fun hc2 => ed_non)) (show _ = (shE s) from by exact if_pos h.ok)) ?_) (Or.inl rfl))
      rfl
  · skip
    walk_at "en"
    refine ws_cons (ws_set 1 nd (ED.eq (ed_call G_read_integers (hr.mono (by decide)) (by rfl) (ad_cons (ED.eq (ed_lst (eo_slice (ed_var 0 rfl) (some_part ed_int) no_part)) (show _ = (.lst (([a, b, c, e] : List Str).map .str)) from by rfl)) ad_nil) (by exact .gen [a, b, c, e] o r (fun w hw9 => hs w hw9) (by simp))) (show _ = (optT o) from by rfl)) ?_)
    walk_at "env"
    rcases hb with rfl | ⟨i, j, k, m, rfl, hb⟩
    · skip
      refine ws_cons (ws_if (td_cmp (ed_var 1 rfl) ed_non (by walk_at "c2")) (fun hc3 => ?_) (fun hc3 => ?_))
      · skip
        clear hc3
        refine ws_cons (ws_ret (ED.eq ed_non ?_) (Or.inl rfl))
        rfl
      · skip
        exfalso; simp [optT, isNon] at hc3
    · skip
      refine ws_cons (ws_if (td_cmp (ed_var 1 rfl) ed_non (by walk_at "c2")) (fun hc4 => ?_) (fun hc4 => ?_))
      · skip
        exfalso; simp [optT, isNon] at hc4
      · skip
        clear hc4
        refine ws_nil ?_
        refine ws_cons (ws_set 2 nd (ED.eq (ed_tup (ad_cons (ed_ix (ed_var 0 rfl) ed_int (by walk_at "ix")) (ad_cons (ed_var 1 rfl) ad_nil))) (show _ = (shE (l, ⟨i, j, k, m⟩)) from by rfl)) ?_)
        walk_at "env"
        refine ws_cons (ws_ret (ED.eq (ED.eq (ed_ifv (td_truth (ed_call G_is_shape (hr.mono (by decide)) (by rfl) (ad_cons (ed_var 2 rfl) ad_nil) (by exact .mk (l, ⟨i, j, k, m⟩))) rfl) (fun hc5 => (ed_var 2 rfl)) (fun hc5 => ed_non)) (show _ = (.non) from by rw [if_neg (by rw [hb]; decide)])) ?_) (Or.inl rfl))
        rfl
abbrev s_read_label : Stmt := top 35
theorem sc_read_label : FnScope ["words", "square", "label"] ["words"] (defScope s_read_label) := ⟨rfl, rfl, rfl, by decide +kernel, rfl, by decide +kernel, by decide +kernel⟩
theorem ok_read_label {f : Addr} {fd : FuncData} (F : Fun K "read_label" "read_label" s_read_label f fd) (B : Bt mg) (KC : Kt K mg) (KL : Lt K mg) (WD : Zdt K w mg) (KT : Ktt K mg) (XF : Xt K mg) (G_is_label : Fn P w K mg base "is_label" 2 R_is_label) (G_read_integers : Fn P w K mg base "read_integers" 2 R_read_integers) :
    FnOk P w K mg base CX0 3 f fd ["words"] (spR K R_read_label) := by
  refine fn_ok (k := 2) F sc_read_label (fun ds d h => by cases h <;> rfl) fun ds d hR cdv A outer s H E hr => ?_
  have nd := sc_read_label.nd
  have hu := hr.units
  
  walk_at "en"
  rcases hR with ⟨v, h⟩ | ⟨n, l, a, b, o, r, hb, hs, hn⟩
  · skip
    walk_at "en"
    refine ws_cons (ws_set 1 nd (ed_call G_read_integers (hr.mono (by decide)) (by rfl) (ad_cons (ED.eq (ed_lst (eo_slice (ed_var 0 rfl) (some_part ed_int) no_part)) (show _ = (D.lst (([v.x, v.y] : List Int).map fun i => D.str (stI i))) from by rfl)) ad_nil) (by exact .mk [v.x, v.y] (by intro i hi; have hi : i = v.x ∨ i = v.y := (by simpa using hi); rcases hi with rfl | rfl <;> first | exact h.x | exact h.y) (by simp))) ?_)
    walk_at "env"
    refine ws_cons (ws_if (td_cmp (ed_var 1 rfl) ed_non (by walk_at "c2")) (fun hc1 => ?_) (fun hc1 => ?_))
    · skip
      cases hc1
    · skip
      clear hc1
      refine ws_nil ?_
      refine ws_cons (ws_set 2 nd (ED.eq (ed_tup (ad_cons (ed_ix (ed_var 0 rfl) ed_int (by walk_at "ix")) (ad_cons (ed_ix (ed_var 0 rfl) ed_int (by walk_at "ix")) (ad_star (ed_var 1 rfl) ad_nil))) (by show (4 : Nat) ≤ sizeLine; rw [sizeLine_eq]; omega)) (show _ = v.e from rfl)) ?_)
      walk_at "env"
      refine ws_cons (ws_ret (ED.eq (ED.eq (ed_ifv (td_truth (ed_call G_is_label (hr.mono (by decide)) (by rfl) (ad_cons (ed_var 2 rfl) ad_nil) (by exact .mk v (by have := nameB_len h.n; rw [sizeLine_eq]; omega))) rfl) (fun hc2 => (ed_var 2 rfl)) (fun hc2 => ed_non)) (show _ = (v.e) from by exact if_pos h.ok)) ?_) (Or.inl rfl))
      rfl
  · skip
    walk_at "en"
    refine ws_cons (ws_set 1 nd (ED.eq (ed_call G_read_integers (hr.mono (by decide)) (by rfl) (ad_cons (ED.eq (ed_lst (eo_slice (ed_var 0 rfl) (some_part ed_int) no_part)) (show _ = (.lst (([a, b] : List Str).map .str)) from by rfl)) ad_nil) (by exact .gen [a, b] o r (fun w hw9 => hs w hw9) (by simp))) (show _ = (optT o) from by rfl)) ?_)
    walk_at "env"
    rcases hb with rfl | ⟨i, j, rfl, hb⟩
    · skip
      refine ws_cons (ws_if (td_cmp (ed_var 1 rfl) ed_non (by walk_at "c2")) (fun hc3 => ?_) (fun hc3 => ?_))
      · skip
        clear hc3
        refine ws_cons (ws_ret (ED.eq ed_non ?_) (Or.inl rfl))
        rfl
      · skip
        exfalso; simp [optT, isNon] at hc3
    · skip
      refine ws_cons (ws_if (td_cmp (ed_var 1 rfl) ed_non (by walk_at "c2")) (fun hc4 => ?_) (fun hc4 => ?_))
      · skip
        exfalso; simp [optT, isNon] at hc4
      · skip
        clear hc4
        refine ws_nil ?_
        refine ws_cons (ws_set 2 nd (ED.eq (ed_tup (ad_cons (ed_ix (ed_var 0 rfl) ed_int (by walk_at "ix")) (ad_cons (ed_ix (ed_var 0 rfl) ed_int (by walk_at "ix")) (ad_star (ed_var 1 rfl) ad_nil))) (by show (4 : Nat) ≤ sizeLine; rw [sizeLine_eq]; omega)) (show _ = (Lab.mk n l i j).e from rfl)) ?_)
        walk_at "env"
        refine ws_cons (ws_ret (ED.eq (ED.eq (ed_ifv (td_truth (ed_call G_is_label (hr.mono (by decide)) (by rfl) (ad_cons (ed_var 2 rfl) ad_nil) (by exact .mk ⟨n, l, i, j⟩ hn)) rfl) (fun hc5 => (ed_var 2 rfl)) (fun hc5 => ed_non)) (show _ = (.non) from by rw [if_neg (by rw [hb]; decide)])) ?_) (Or.inl rfl))
        rfl
abbrev s_read_placement : Stmt := top 36
theorem sc_read_placement : FnScope ["words", "numbers", "placement"] ["words"] (defScope s_read_placement) := ⟨rfl, rfl, rfl, by decide +kernel, rfl, by decide +kernel, by decide +kernel⟩
theorem ok_read_placement {f : Addr} {fd : FuncData} (F : Fun K "read_placement" "read_placement" s_read_placement f fd) (B : Bt mg) (KC : Kt K mg) (KL : Lt K mg) (WD : Zdt K w mg) (KT : Ktt K mg) (XF : Xt K mg) (G_is_placement : Fn P w K mg base "is_placement" 2 R_is_placement) (G_read_integers : Fn P w K mg base "read_integers" 2 R_read_integers) :
    FnOk P w K mg base CX0 3 f fd ["words"] (spR K R_read_placement) := by
  refine fn_ok (k := 2) F sc_read_placement (fun ds d h => by cases h <;> rfl) fun ds d hR cdv A outer s H E hr => ?_
  have nd := sc_read_placement.nd
  have hu := hr.units
  
  walk_at "en"
  rcases hR with ⟨v, h⟩ | ⟨n, t, a, b, c, e, f, g, o, r, hb, hs, hn⟩
  · skip
    walk_at "en"
    refine ws_cons (ws_set 1 nd (ed_call G_read_integers (hr.mono (by decide)) (by rfl) (ad_cons (ED.eq (ed_lst (eo_slice (ed_var 0 rfl) (some_part ed_int) no_part)) (show _ = (D.lst (([v.t, v.dx, v.dy, v.c, v.r, v.sx, v.sy] : List Int).map fun i => D.str (stI i))) from by rfl)) ad_nil) (by exact .mk [v.t, v.dx, v.dy, v.c, v.r, v.sx, v.sy] (by intro i hi; have hi : i = v.t ∨ i = v.dx ∨ i = v.dy ∨ i = v.c ∨ i = v.r ∨ i = v.sx ∨ i = v.sy := (by simpa using hi); rcases hi with rfl | rfl | rfl | rfl | rfl | rfl | rfl <;> first | exact h.t | exact h.dx | exact h.dy | exact h.c | exact h.r | exact h.sx | exact h.sy) (by simp))) ?_)
    walk_at "env"
    refine ws_cons (ws_if (td_cmp (ed_var 1 rfl) ed_non (by walk_at "c2")) (fun hc1 => ?_) (fun hc1 => ?_))
    · skip
      cases hc1
    · skip
      clear hc1
      refine ws_nil ?_
      refine ws_cons (ws_set 2 nd (ED.eq (ed_tup (ad_cons (ed_ix (ed_var 0 rfl) ed_int (by walk_at "ix")) (ad_cons (ed_sliceT (ed_var 1 rfl) no_part (some_part ed_int)) (ad_star (ed_sliceT (ed_var 1 rfl) (some_part ed_int) no_part) ad_nil))) (by show (6 : Nat) ≤ sizeLine; rw [sizeLine_eq]; omega)) (show _ = v.e from rfl)) ?_)
      walk_at "env"
      refine ws_cons (ws_ret (ED.eq (ED.eq (ed_ifv (td_truth (ed_call G_is_placement (hr.mono (by decide)) (by rfl) (ad_cons (ed_var 2 rfl) ad_nil) (by exact .mk v (by have := nameB_len h.n; rw [sizeLine_eq]; omega))) rfl) (fun hc2 => (ed_var 2 rfl)) (fun hc2 => ed_non)) (show _ = (v.e) from by exact if_pos h.ok)) ?_) (Or.inl rfl))
      rfl
  · skip
    walk_at "en"
    refine ws_cons (ws_set 1 nd (ED.eq (ed_call G_read_integers (hr.mono (by decide)) (by rfl) (ad_cons (ED.eq (ed_lst (eo_slice (ed_var 0 rfl) (some_part ed_int) no_part)) (show _ = (.lst (([t, a, b, c, e, f, g] : List Str).map .str)) from by rfl)) ad_nil) (by exact .gen [t, a, b, c, e, f, g] o r (fun w hw9 => hs w hw9) (by simp))) (show _ = (optT o) from by rfl)) ?_)
    walk_at "env"
    rcases hb with rfl | ⟨i, j, k, l, m, q, z, rfl, hb⟩
    · skip
      refine ws_cons (ws_if (td_cmp (ed_var 1 rfl) ed_non (by walk_at "c2")) (fun hc3 => ?_) (fun hc3 => ?_))
      · skip
        clear hc3
        refine ws_cons (ws_ret (ED.eq ed_non ?_) (Or.inl rfl))
        rfl
      · skip
        exfalso; simp [optT, isNon] at hc3
    · skip
      refine ws_cons (ws_if (td_cmp (ed_var 1 rfl) ed_non (by walk_at "c2")) (fun hc4 => ?_) (fun hc4 => ?_))
      · skip
        exfalso; simp [optT, isNon] at hc4
      · skip
        clear hc4
        refine ws_nil ?_
        refine ws_cons (ws_set 2 nd (ED.eq (ed_tup (ad_cons (ed_ix (ed_var 0 rfl) ed_int (by walk_at "ix")) (ad_cons (ED.eq (ed_sliceT (ED.eq (ed_var 1 rfl) (show _ = D.tup [.int i, .int j, .int k, .int l, .int m, .int q, .int z] from rfl)) no_part (some_part ed_int)) (show _ = D.tup [.int i, .int j, .int k] from rfl)) (ad_star (ED.eq (ed_sliceT (ED.eq (ed_var 1 rfl) (show _ = D.tup [.int i, .int j, .int k, .int l, .int m, .int q, .int z] from rfl)) (some_part ed_int) no_part) (show _ = D.tup [.int l, .int m, .int q, .int z] from rfl)) ad_nil))) (by show (6 : Nat) ≤ sizeLine; rw [sizeLine_eq]; omega)) (show _ = (Pla.mk n i j k l m q z).e from rfl)) ?_)
        walk_at "env"
        refine ws_cons (ws_ret (ED.eq (ED.eq (ed_ifv (td_truth (ed_call G_is_placement (hr.mono (by decide)) (by rfl) (ad_cons (ed_var 2 rfl) ad_nil) (by exact .mk ⟨n, i, j, k, l, m, q, z⟩ hn)) rfl) (fun hc5 => (ed_var 2 rfl)) (fun hc5 => ed_non)) (show _ = (.non) from by rw [if_neg (by rw [hb]; decide)])) ?_) (Or.inl rfl))
        rfl
abbrev s_read_part_c : Stmt := top 38
theorem sc_read_part_c : FnScope ["line", "words", "reader", "value"] ["line"] (defScope s_read_part_c) := ⟨rfl, rfl, rfl, by decide +kernel, rfl, by decide +kernel, by decide +kernel⟩
theorem ok_read_part_c {f : Addr} {fd : FuncData} (F : Fun K "read_part" "read_part" s_read_part_c f fd) (B : Bt mg) (KC : Kt K mg) (KL : Lt K mg) (WD : Zdt K w mg) (KT : Ktt K mg) (XF : Xt K mg) (G_read_cell_name : Fn P w K mg base "read_cell_name" 2 R_read_cell_name) :
    FnOk P w K mg base CX0 4 f fd ["line"] (spR K R_read_part_c) := by
  refine fn_ok (k := 3) F sc_read_part_c (fun ds d h => by cases h <;> rfl) fun ds d hR cdv A outer s H E hr => ?_
  have nd := sc_read_part_c.nd
  have hu := hr.units
  rcases hR with ⟨n, h⟩
  have hok : (LPart.c n).Ok := h
  have hlen := LPart.len hok
  obtain ⟨f0, kd0, GA⟩ := (WD.«READERS».get ("cell", "read_cell_name") (by simp)).fn G_read_cell_name
  walk_at "en"
  refine ws_cons (ws_set 1 nd (ED.eq (ed_lst (eo_split (ed_var 0 rfl) ed_str (by decide +kernel) (by rw [sizeLine_eq]; omega))) (show _ = D.lst ((LPart.c n).ws.map D.str) by rw [LPart.split hok])) ?_)
  walk_at "env"
  refine ws_cons (ws_if (td_tw (tw_or (td_notInKd (WD.«READERS».get ("cell", "read_cell_name") (by simp)).has (by rfl) (ed_ix (ed_var 1 rfl) ed_int (by walk_at "ix"))) (fun hb2 => (tw_or1 (td_cmp (ed_callB (id := "len") (by rfl) B.«len» bb_len (ad_cons (ed_var 1 rfl) ad_nil) (by walk_at "bc")) (ed_kdict (WD.«WORD_COUNTS».get ("cell", .int 2) (by simp [wcT])) (by rfl) (ed_ix (ed_var 1 rfl) ed_int (by walk_at "ix"))) (by walk_at "c2")))))) (fun hc1 => ?_) (fun hc1 => ?_))
  · skip
    exfalso; simp [LPart.ws, wnC, wnS, wnL, wnP] at hc1
  · skip
    clear hc1
    refine ws_nil ?_
    refine ws_cons (ws_set 2 nd (ed_kdict kd0 (by rfl) (ed_ix (ed_var 1 rfl) ed_int (by walk_at "ix"))) ?_)
    walk_at "env"
    refine ws_cons (ws_set 3 nd (have _g := G_read_cell_name; ed_callL 2 rfl GA (hr.mono (by decide)) (ad_cons (ed_var 1 rfl) ad_nil) (R_read_cell_name.mk n h)) ?_)
    walk_at "env"
    refine ws_cons (ws_ret (ED.eq (ED.eq (ed_ifv (td_cmp (ed_var 3 rfl) ed_non (by walk_at "c2")) (fun hc3 => ed_non) (fun hc3 => (ed_tup (ad_cons (ed_ix (ed_var 1 rfl) ed_int (by walk_at "ix")) (ad_cons (ed_var 3 rfl) ad_nil))))) (show _ = (D.tup [.str "cell", (LPart.c n).v]) from by rfl)) ?_) (Or.inl rfl))
    rfl
abbrev s_read_part_s : Stmt := top 38
theorem sc_read_part_s : FnScope ["line", "words", "reader", "value"] ["line"] (defScope s_read_part_s) := ⟨rfl, rfl, rfl, by decide +kernel, rfl, by decide +kernel, by decide +kernel⟩
theorem ok_read_part_s {f : Addr} {fd : FuncData} (F : Fun K "read_part" "read_part" s_read_part_s f fd) (B : Bt mg) (KC : Kt K mg) (KL : Lt K mg) (WD : Zdt K w mg) (KT : Ktt K mg) (XF : Xt K mg) (G_read_shape : Fn P w K mg base "read_shape" 3 R_read_shape) :
    FnOk P w K mg base CX0 5 f fd ["line"] (spR K R_read_part_s) := by
  refine fn_ok (k := 4) F sc_read_part_s (fun ds d h => by cases h <;> rfl) fun ds d hR cdv A outer s H E hr => ?_
  have nd := sc_read_part_s.nd
  have hu := hr.units
  rcases hR with ⟨v, h⟩
  have hok : (LPart.s v).Ok := h
  have hlen := LPart.len hok
  obtain ⟨f0, kd0, GA⟩ := (WD.«READERS».get ("shape", "read_shape") (by simp)).fn G_read_shape
  walk_at "en"
  refine ws_cons (ws_set 1 nd (ED.eq (ed_lst (eo_split (ed_var 0 rfl) ed_str (by decide +kernel) (by rw [sizeLine_eq]; omega))) (show _ = D.lst ((LPart.s v).ws.map D.str) by rw [LPart.split hok])) ?_)
  walk_at "env"
  refine ws_cons (ws_if (td_tw (tw_or (td_notInKd (WD.«READERS».get ("shape", "read_shape") (by simp)).has (by rfl) (ed_ix (ed_var 1 rfl) ed_int (by walk_at "ix"))) (fun hb2 => (tw_or1 (td_cmp (ed_callB (id := "len") (by rfl) B.«len» bb_len (ad_cons (ed_var 1 rfl) ad_nil) (by walk_at "bc")) (ed_kdict (WD.«WORD_COUNTS».get ("shape", .int 6) (by simp [wcT])) (by rfl) (ed_ix (ed_var 1 rfl) ed_int (by walk_at "ix"))) (by walk_at "c2")))))) (fun hc1 => ?_) (fun hc1 => ?_))
  · skip
    exfalso; simp [LPart.ws, wnC, wnS, wnL, wnP] at hc1
  · skip
    clear hc1
    refine ws_nil ?_
    refine ws_cons (ws_set 2 nd (ed_kdict kd0 (by rfl) (ed_ix (ed_var 1 rfl) ed_int (by walk_at "ix"))) ?_)
    walk_at "env"
    refine ws_cons (ws_set 3 nd (have _g := G_read_shape; ed_callL 2 rfl GA (hr.mono (by decide)) (ad_cons (ed_var 1 rfl) ad_nil) (R_read_shape.mk v h)) ?_)
    walk_at "env"
    refine ws_cons (ws_ret (ED.eq (ED.eq (ed_ifv (td_cmp (ed_var 3 rfl) ed_non (by walk_at "c2")) (fun hc3 => ed_non) (fun hc3 => (ed_tup (ad_cons (ed_ix (ed_var 1 rfl) ed_int (by walk_at "ix")) (ad_cons (ed_var 3 rfl) ad_nil))))) (show _ = (D.tup [.str "shape", (LPart.s v).v]) from by rfl)) ?_) (Or.inl rfl))
    rfl
abbrev s_read_part_l : Stmt := top 38
theorem sc_read_part_l : FnScope ["line", "words", "reader", "value"] ["line"] (defScope s_read_part_l) := ⟨rfl, rfl, rfl, by decide +kernel, rfl, by decide +kernel, by decide +kernel⟩
theorem ok_read_part_l {f : Addr} {fd : FuncData} (F : Fun K "read_part" "read_part" s_read_part_l f fd) (B : Bt mg) (KC : Kt K mg) (KL : Lt K mg) (WD : Zdt K w mg) (KT : Ktt K mg) (XF : Xt K mg) (G_read_label : Fn P w K mg base "read_label" 3 R_read_label) :
    FnOk P w K mg base CX0 6 f fd ["line"] (spR K R_read_part_l) := by
  refine fn_ok (k := 5) F sc_read_part_l (fun ds d h => by cases h <;> rfl) fun ds d hR cdv A outer s H E hr => ?_
  have nd := sc_read_part_l.nd
  have hu := hr.units
  rcases hR with ⟨v, h⟩
  have hok : (LPart.l v).Ok := h
  have hlen := LPart.len hok
  obtain ⟨f0, kd0, GA⟩ := (WD.«READERS».get ("label", "read_label") (by simp)).fn G_read_label
  walk_at "en"
  refine ws_cons (ws_set 1 nd (ED.eq (ed_lst (eo_split (ed_var 0 rfl) ed_str (by decide +kernel) (by rw [sizeLine_eq]; omega))) (show _ = D.lst ((LPart.l v).ws.map D.str) by rw [LPart.split hok])) ?_)
  walk_at "env"
  refine ws_cons (ws_if (td_tw (tw_or (td_notInKd (WD.«READERS».get ("label", "read_label") (by simp)).has (by rfl) (ed_ix (ed_var 1 rfl) ed_int (by walk_at "ix"))) (fun hb2 => (tw_or1 (td_cmp (ed_callB (id := "len") (by rfl) B.«len» bb_len (ad_cons (ed_var 1 rfl) ad_nil) (by walk_at "bc")) (ed_kdict (WD.«WORD_COUNTS».get ("label", .int 5) (by simp [wcT])) (by rfl) (ed_ix (ed_var 1 rfl) ed_int (by walk_at "ix"))) (by walk_at "c2")))))) (fun hc1 => ?_) (fun hc1 => ?_))
  · skip
    exfalso; simp [LPart.ws, wnC, wnS, wnL, wnP] at hc1
  · skip
    clear hc1
    refine ws_nil ?_
    refine ws_cons (ws_set 2 nd (ed_kdict kd0 (by rfl) (ed_ix (ed_var 1 rfl) ed_int (by walk_at "ix"))) ?_)
    walk_at "env"
    refine ws_cons (ws_set 3 nd (have _g := G_read_label; ed_callL 2 rfl GA (hr.mono (by decide)) (ad_cons (ed_var 1 rfl) ad_nil) (R_read_label.mk v h)) ?_)
    walk_at "env"
    refine ws_cons (ws_ret (ED.eq (ED.eq (ed_ifv (td_cmp (ed_var 3 rfl) ed_non (by walk_at "c2")) (fun hc3 => ed_non) (fun hc3 => (ed_tup (ad_cons (ed_ix (ed_var 1 rfl) ed_int (by walk_at "ix")) (ad_cons (ed_var 3 rfl) ad_nil))))) (show _ = (D.tup [.str "label", (LPart.l v).v]) from by rfl)) ?_) (Or.inl rfl))
    rfl
abbrev s_read_part_p : Stmt := top 38
theorem sc_read_part_p : FnScope ["line", "words", "reader", "value"] ["line"] (defScope s_read_part_p) := ⟨rfl, rfl, rfl, by decide +kernel, rfl, by decide +kernel, by decide +kernel⟩
theorem ok_read_part_p {f : Addr} {fd : FuncData} (F : Fun K "read_part" "read_part" s_read_part_p f fd) (B : Bt mg) (KC : Kt K mg) (KL : Lt K mg) (WD : Zdt K w mg) (KT : Ktt K mg) (XF : Xt K mg) (G_read_placement : Fn P w K mg base "read_placement" 3 R_read_placement) :
    FnOk P w K mg base CX0 7 f fd ["line"] (spR K R_read_part_p) := by
  refine fn_ok (k := 6) F sc_read_part_p (fun ds d h => by cases h <;> rfl) fun ds d hR cdv A outer s H E hr => ?_
  have nd := sc_read_part_p.nd
  have hu := hr.units
  rcases hR with ⟨v, h⟩
  have hok : (LPart.p v).Ok := h
  have hlen := LPart.len hok
  obtain ⟨f0, kd0, GA⟩ := (WD.«READERS».get ("place", "read_placement") (by simp)).fn G_read_placement
  walk_at "en"
  refine ws_cons (ws_set 1 nd (ED.eq (ed_lst (eo_split (ed_var 0 rfl) ed_str (by decide +kernel) (by rw [sizeLine_eq]; omega))) (show _ = D.lst ((LPart.p v).ws.map D.str) by rw [LPart.split hok])) ?_)
  walk_at "env"
  refine ws_cons (ws_if (td_tw (tw_or (td_notInKd (WD.«READERS».get ("place", "read_placement") (by simp)).has (by rfl) (ed_ix (ed_var 1 rfl) ed_int (by walk_at "ix"))) (fun hb2 => (tw_or1 (td_cmp (ed_callB (id := "len") (by rfl) B.«len» bb_len (ad_cons (ed_var 1 rfl) ad_nil) (by walk_at "bc")) (ed_kdict (WD.«WORD_COUNTS».get ("place", .int 9) (by simp [wcT])) (by rfl) (ed_ix (ed_var 1 rfl) ed_int (by walk_at "ix"))) (by walk_at "c2")))))) (fun hc1 => ?_) (fun hc1 => ?_))
  · skip
    exfalso; simp [LPart.ws, wnC, wnS, wnL, wnP] at hc1
  · skip
    clear hc1
    refine ws_nil ?_
    refine ws_cons (ws_set 2 nd (ed_kdict kd0 (by rfl) (ed_ix (ed_var 1 rfl) ed_int (by walk_at "ix"))) ?_)
    walk_at "env"
    refine ws_cons (ws_set 3 nd (have _g := G_read_placement; ed_callL 2 rfl GA (hr.mono (by decide)) (ad_cons (ed_var 1 rfl) ad_nil) (R_read_placement.mk v h)) ?_)
    walk_at "env"
    refine ws_cons (ws_ret (ED.eq (ED.eq (ed_ifv (td_cmp (ed_var 3 rfl) ed_non (by walk_at "c2")) (fun hc3 => ed_non) (fun hc3 => (ed_tup (ad_cons (ed_ix (ed_var 1 rfl) ed_int (by walk_at "ix")) (ad_cons (ed_var 3 rfl) ad_nil))))) (show _ = (D.tup [.str "place", (LPart.p v).v]) from by rfl)) ?_) (Or.inl rfl))
    rfl
abbrev s_read_part_x : Stmt := top 38
theorem sc_read_part_x : FnScope ["line", "words", "reader", "value"] ["line"] (defScope s_read_part_x) := ⟨rfl, rfl, rfl, by decide +kernel, rfl, by decide +kernel, by decide +kernel⟩
theorem ok_read_part_x {f : Addr} {fd : FuncData} (F : Fun K "read_part" "read_part" s_read_part_x f fd) (B : Bt mg) (KC : Kt K mg) (KL : Lt K mg) (WD : Zdt K w mg) (KT : Ktt K mg) (XF : Xt K mg) (G_read_cell_name : Fn P w K mg base "read_cell_name" 2 R_read_cell_name) (G_read_label : Fn P w K mg base "read_label" 3 R_read_label) (G_read_placement : Fn P w K mg base "read_placement" 3 R_read_placement) (G_read_shape : Fn P w K mg base "read_shape" 3 R_read_shape) :
    FnOk P w K mg base CX0 8 f fd ["line"] (spR K R_read_part_x) := by
  refine fn_ok (k := 7) F sc_read_part_x (fun ds d h => by cases h <;> rfl) fun ds d hR cdv A outer s H E hr => ?_
  have nd := sc_read_part_x.nd
  have hu := hr.units
  rcases hR with ⟨ws, hw, hN⟩
  have hlen := hw.len
  walk_at "en"
  refine ws_cons (ws_set 1 nd (ED.eq (ed_lst (eo_split (ed_var 0 rfl) ed_str (by decide +kernel) (by rw [sizeLine_eq]; omega))) (show _ = D.lst (ws.map D.str) by rw [ln_split hw.ne hw.ok])) ?_)
  walk_at "env"
  rcases hN with ⟨w, ws, hu⟩ | ⟨w, ws, k, hlo, hu⟩ | ⟨n, hb⟩ | ⟨l, a, b, c, e, o, r, hb⟩ | ⟨n, l, a, b, o, r, hb⟩ | ⟨n, t, a, b, c, e, f, g, o, r, hb⟩
  · skip
    refine ws_cons (ws_if (td_tw (tw_or (td_notInKdN (WD.«READERS no».get w hu) (by rfl) (ed_ix (ed_var 1 rfl) ed_int (by walk_at "ix"))) (fun hb2 => (tw_or1 (td_cmp (ed_callB (id := "len") (by rfl) B.«len» bb_len (ad_cons (ed_var 1 rfl) ad_nil) (by walk_at "bc")) (show ED _ _ _ (D.int 0) from by contradiction) (by walk_at "c2")))))) (fun hc1 => ?_) (fun hc1 => ?_))
    · skip
      clear hc1
      refine ws_cons (ws_ret (ED.eq ed_non ?_) (Or.inl rfl))
      rfl
    · skip
      exfalso; simp at hc1
  · skip
    obtain ⟨rf, wc0, hrf, hwc, hne⟩ := cnt_ex hlo hu
    refine ws_cons (ws_if (td_tw (tw_or (td_notInKd (WD.«READERS».get (w, rf) hrf).has (by rfl) (ed_ix (ed_var 1 rfl) ed_int (by walk_at "ix"))) (fun hb4 => (tw_or1 (td_cmp (ed_callB (id := "len") (by rfl) B.«len» bb_len (ad_cons (ed_var 1 rfl) ad_nil) (by walk_at "bc")) (ed_kdict (WD.«WORD_COUNTS».get (w, .int wc0) hwc) (by rfl) (ed_ix (ed_var 1 rfl) ed_int (by walk_at "ix"))) (by walk_at "c2")))))) (fun hc3 => ?_) (fun hc3 => ?_))
    · skip
      clear hc3
      refine ws_cons (ws_ret (ED.eq ed_non ?_) (Or.inl rfl))
      rfl
    · skip
      exfalso; exact cnt_fall hne hc3
  · skip
    obtain ⟨f0, kd0, GA⟩ := (WD.«READERS».get ("cell", "read_cell_name") (by simp)).fn G_read_cell_name
    refine ws_cons (ws_if (td_tw (tw_or (td_notInKd (WD.«READERS».get ("cell", "read_cell_name") (by simp)).has (by rfl) (ed_ix (ed_var 1 rfl) ed_int (by walk_at "ix"))) (fun hb6 => (tw_or1 (td_cmp (ed_callB (id := "len") (by rfl) B.«len» bb_len (ad_cons (ed_var 1 rfl) ad_nil) (by walk_at "bc")) (ed_kdict (WD.«WORD_COUNTS».get ("cell", .int 2) (by simp [wcT])) (by rfl) (ed_ix (ed_var 1 rfl) ed_int (by walk_at "ix"))) (by walk_at "c2")))))) (fun hc5 => ?_) (fun hc5 => ?_))
    · skip
      exfalso; simp at hc5
    · skip
      clear hc5
      refine ws_nil ?_
      refine ws_cons (ws_set 2 nd (ed_kdict kd0 (by rfl) (ed_ix (ed_var 1 rfl) ed_int (by walk_at "ix"))) ?_)
      walk_at "env"
      refine ws_cons (ws_set 3 nd (have _g := G_read_cell_name; ed_callL 2 rfl GA (hr.mono (by decide)) (ad_cons (ed_var 1 rfl) ad_nil) (R_read_cell_name.no n hb (hw.sz n (by simp)))) ?_)
      walk_at "env"
      refine ws_cons (ws_ret (ED.eq (ED.eq (ed_ifv (td_cmp (ed_var 3 rfl) ed_non (by walk_at "c2")) (fun hc7 => ed_non) (fun hc7 => (ed_tup (ad_cons (ed_ix (ed_var 1 rfl) ed_int (by walk_at "ix")) (ad_cons (ed_var 3 rfl) ad_nil))))) (show _ = (D.non) from by rfl)) ?_) (Or.inl rfl))
      rfl
  · skip
    obtain ⟨f0, kd0, GA⟩ := (WD.«READERS».get ("shape", "read_shape") (by simp)).fn G_read_shape
    refine ws_cons (ws_if (td_tw (tw_or (td_notInKd (WD.«READERS».get ("shape", "read_shape") (by simp)).has (by rfl) (ed_ix (ed_var 1 rfl) ed_int (by walk_at "ix"))) (fun hb9 => (tw_or1 (td_cmp (ed_callB (id := "len") (by rfl) B.«len» bb_len (ad_cons (ed_var 1 rfl) ad_nil) (by walk_at "bc")) (ed_kdict (WD.«WORD_COUNTS».get ("shape", .int 6) (by simp [wcT])) (by rfl) (ed_ix (ed_var 1 rfl) ed_int (by walk_at "ix"))) (by walk_at "c2")))))) (fun hc8 => ?_) (fun hc8 => ?_))
    · skip
      exfalso; simp at hc8
    · skip
      clear hc8
      refine ws_nil ?_
      refine ws_cons (ws_set 2 nd (ed_kdict kd0 (by rfl) (ed_ix (ed_var 1 rfl) ed_int (by walk_at "ix"))) ?_)
      walk_at "env"
      refine ws_cons (ws_set 3 nd (have _g := G_read_shape; ed_callL 2 rfl GA (hr.mono (by decide)) (ad_cons (ed_var 1 rfl) ad_nil) (R_read_shape.no l a b c e o r hb (fun w hw9 => by have := (hw.ok w (by simp at hw9 ⊢; simp [hw9])).n; omega))) ?_)
      walk_at "env"
      refine ws_cons (ws_ret (ED.eq (ED.eq (ed_ifv (td_cmp (ed_var 3 rfl) ed_non (by walk_at "c2")) (fun hc10 => ed_non) (fun hc10 => (ed_tup (ad_cons (ed_ix (ed_var 1 rfl) ed_int (by walk_at "ix")) (ad_cons (ed_var 3 rfl) ad_nil))))) (show _ = (D.non) from by rfl)) ?_) (Or.inl rfl))
      rfl
  · skip
    obtain ⟨f0, kd0, GA⟩ := (WD.«READERS».get ("label", "read_label") (by simp)).fn G_read_label
    refine ws_cons (ws_if (td_tw (tw_or (td_notInKd (WD.«READERS».get ("label", "read_label") (by simp)).has (by rfl) (ed_ix (ed_var 1 rfl) ed_int (by walk_at "ix"))) (fun hb12 => (tw_or1 (td_cmp (ed_callB (id := "len") (by rfl) B.«len» bb_len (ad_cons (ed_var 1 rfl) ad_nil) (by walk_at "bc")) (ed_kdict (WD.«WORD_COUNTS».get ("label", .int 5) (by simp [wcT])) (by rfl) (ed_ix (ed_var 1 rfl) ed_int (by walk_at "ix"))) (by walk_at "c2")))))) (fun hc11 => ?_) (fun hc11 => ?_))
    · skip
      exfalso; simp at hc11
    · skip
      clear hc11
      refine ws_nil ?_
      refine ws_cons (ws_set 2 nd (ed_kdict kd0 (by rfl) (ed_ix (ed_var 1 rfl) ed_int (by walk_at "ix"))) ?_)
      walk_at "env"
      refine ws_cons (ws_set 3 nd (have _g := G_read_label; ed_callL 2 rfl GA (hr.mono (by decide)) (ad_cons (ed_var 1 rfl) ad_nil) (R_read_label.no n l a b o r hb (fun w hw9 => by have := (hw.ok w (by simp at hw9 ⊢; simp [hw9])).n; omega) (hw.sz n (by simp)))) ?_)
      walk_at "env"
      refine ws_cons (ws_ret (ED.eq (ED.eq (ed_ifv (td_cmp (ed_var 3 rfl) ed_non (by walk_at "c2")) (fun hc13 => ed_non) (fun hc13 => (ed_tup (ad_cons (ed_ix (ed_var 1 rfl) ed_int (by walk_at "ix")) (ad_cons (ed_var 3 rfl) ad_nil))))) (show _ = (D.non) from by rfl)) ?_) (Or.inl rfl))
      rfl
  · skip
    obtain ⟨f0, kd0, GA⟩ := (WD.«READERS».get ("place", "read_placement") (by simp)).fn G_read_placement
    refine ws_cons (ws_if (td_tw (tw_or (td_notInKd (WD.«READERS».get ("place", "read_placement") (by simp)).has (by rfl) (ed_ix (ed_var 1 rfl) ed_int (by walk_at "ix"))) (fun hb15 => (tw_or1 (td_cmp (ed_callB (id := "len") (by rfl) B.«len» bb_len (ad_cons (ed_var 1 rfl) ad_nil) (by walk_at "bc")) (ed_kdict (WD.«WORD_COUNTS».get ("place", .int 9) (by simp [wcT])) (by rfl) (ed_ix (ed_var 1 rfl) ed_int (by walk_at "ix"))) (by walk_at "c2")))))) (fun hc14 => ?_) (fun hc14 => ?_))
    · skip
      exfalso; simp at hc14
    · skip
      clear hc14
      refine ws_nil ?_
      refine ws_cons (ws_set 2 nd (ed_kdict kd0 (by rfl) (ed_ix (ed_var 1 rfl) ed_int (by walk_at "ix"))) ?_)
      walk_at "env"
      refine ws_cons (ws_set 3 nd (have _g := G_read_placement; ed_callL 2 rfl GA (hr.mono (by decide)) (ad_cons (ed_var 1 rfl) ad_nil) (R_read_placement.no n t a b c e f g o r hb (fun w hw9 => by have := (hw.ok w (by simp at hw9 ⊢; simp [hw9])).n; omega) (hw.sz n (by simp)))) ?_)
      walk_at "env"
      refine ws_cons (ws_ret (ED.eq (ED.eq (ed_ifv (td_cmp (ed_var 3 rfl) ed_non (by walk_at "c2")) (fun hc16 => ed_non) (fun hc16 => (ed_tup (ad_cons (ed_ix (ed_var 1 rfl) ed_int (by walk_at "ix")) (ad_cons (ed_var 3 rfl) ad_nil))))) (show _ = (D.non) from by rfl)) ?_) (Or.inl rfl))
      rfl
abbrev s_Draft_init : Stmt := inClass (top 39) 0
theorem sc_Draft_init : FnScope ["self"] ["self"] (defScope s_Draft_init) := ⟨rfl, rfl, rfl, by decide +kernel, rfl, by decide +kernel, by decide +kernel⟩
theorem ok_Draft_init {f : Addr} {fd : FuncData} (F : Fun K "__init__" "Draft.__init__" s_Draft_init f fd) (B : Bt mg) (KC : Kt K mg) (KL : Lt K mg) (WD : Zdt K w mg) (KT : Ktt K mg) (XF : Xt K mg)  :
    FnOk P w K mg base CX0 1 f fd ["self"] (spIL K "Draft" R_Draft_init) := by
  refine fn_okIL (k := 0) F sc_Draft_init (fun a ds Ψ h => by cases h; rfl) fun a0 ds Ψ hR cdv A outer s H E hr => ?_
  have nd := sc_Draft_init.nd
  have hu := hr.units
  rcases hR with ⟨⟩
  walk_at "en"
  refine ws_cons (ws_setFO 0 KL.«Draft» rfl eo_dk fun q1 => ?_)
  simp only [List.cons_append, List.nil_append]
  walk_at "env"
  refine ws_cons (ws_setFC 0 KL.«Draft» rfl ed_non ?_)
  simp only [List.cons_append, List.nil_append]
  walk_at "env"
  refine ws_cons (ws_setFO 0 KL.«Draft» rfl eo_dk fun q2 => ?_)
  simp only [List.cons_append, List.nil_append]
  walk_at "env"
  refine ws_cons (ws_setFC 0 KL.«Draft» rfl ed_non ?_)
  simp only [List.cons_append, List.nil_append]
  walk_at "env"
  refine ws_nil ?_
  refine ⟨_, _, _, rfl, rfl, ?_⟩
  exact ⟨_, _, rfl⟩
abbrev s_Draft_fits_v : Stmt := inClass (top 39) 1
theorem sc_Draft_fits_v : FnScope ["self", "word", "value", "begun"] ["self", "word", "value"] (defScope s_Draft_fits_v) := ⟨rfl, rfl, rfl, by decide +kernel, rfl, by decide +kernel, by decide +kernel⟩
theorem ok_Draft_fits_v {f : Addr} {fd : FuncData} (F : Fun K "fits" "Draft.fits" s_Draft_fits_v f fd) (B : Bt mg) (KC : Kt K mg) (KL : Lt K mg) (WD : Zdt K w mg) (KT : Ktt K mg) (XF : Xt K mg)  :
    FnOk P w K mg base CX0 1 f fd ["self", "word", "value"] (spL K R_Draft_fits_v) := by
  refine fn_okL (k := 0) F sc_Draft_fits_v (fun a cs ds Ψ h => by cases h; rfl) fun a0 cs0 ds Ψ hR cdv A outer s H E hr => ?_
  have nd := sc_Draft_fits_v.nd
  have hu := hr.units
  rcases hR with ⟨p, q, b1, b2, b3, Z, c, t, h⟩
  unfold drX
  walk_at "en"
  refine ws_cons (ws_if (td_cmp (ed_var 1 rfl) ed_str (by walk_at "c2")) (fun hc1 => ?_) (fun hc1 => ?_))
  · skip
    obtain ⟨n, rfl⟩ := wd_c hc1
    obtain ⟨g1, g2, g3, g4⟩ := h
    obtain ⟨hk, hne⟩ := new_c g3
    refine ws_cons (ws_set 3 nd (ED.eq (ed_show 0 _ rfl (fun _ _ v h r => dr_shw v h r) (ed_bin (ed_callB (id := "len") (by rfl) B.«len» bb_len (ad_cons (ed_fld 0 KL.«Draft» (ed_var 0 rfl)) ad_nil) bc_lenDk) (ed_ifI (td_cmp (ed_fld 1 KL.«Draft» (ed_var 0 rfl)) ed_non c2_isN (by rfl)) (fun _ => ed_int) (fun _ => ed_int)) b2_add)) (show _ = D.int (((DSt.mk Z c).all.length : Nat) : Int) from congrArg D.int (begun_eq ⟨Z, c⟩))) ?_)
    walk_at "env"
    refine ws_cons (ws_retC 0 (ED.eq (ed_show 0 _ rfl (fun _ _ v h r => dr_shw v h r) (ed_and (ed_cmp (ed_var 3 rfl) (ed_const KC.«MOST_CELLS» (by rfl)) (by walk_at "c2") (by rfl)) (fun _ => ed_and (ed_cmp (ed_var 2 rfl) (ed_fld 1 KL.«Draft» (ed_var 0 rfl)) (c2_neO hu g4 hne) (by rfl)) (fun _ => ed_one (ed_cmp (ed_var 2 rfl) (ed_fld 0 KL.«Draft» (ed_var 0 rfl)) (c2_notInDk hu (k0 := .inr n) rfl) (by rfl)))))) (show _ = D.bl true by simp only at hk; rw [hk, decide_eq_true (show (((DSt.mk Z c).all.length : Nat) : Int) < 60 by omega)]; rfl)) rfl (Or.inl ⟨_, _, rfl, rfl, rfl⟩))
  · skip
    have hw := hc1
    obtain ⟨x, hx1, hx2, hx3, hx4⟩ := wd_x hw h
    have hx1 : c = some x := hx1
    subst hx1
    refine ws_nil ?_
    refine ws_cons (ws_if (td_show 0 _ rfl (fun _ _ v h r => dr_shw v h r) (td_tw (tw_or (td_cmp (ed_fld 1 KL.«Draft» (ed_var 0 rfl)) ed_non c2_isN (by rfl)) (fun _ => tw_or1 (td_cmp (ed_tindex KT.«LINE_ORDER» (by rfl) (ed_var 1 rfl) hx3) (ed_tindex KT.«LINE_ORDER» (by rfl) (ED.eq (ed_fld 3 KL.«Draft» (ed_var 0 rfl)) (show _ = D.str x.w from rfl)) hx2) c2_lt (by rfl)))))) (fun hc2 => ?_) (fun hc2 => ?_))
    · skip
      exfalso; rw [hx4] at hc2; simp [nmD, isNon] at hc2
    · skip
      clear hc2
      refine ws_nil ?_
      refine ws_cons (ws_retC 0 (ED.eq (ed_show 0 _ rfl (fun _ _ v h r => dr_shw v h r) (ed_or (k' := true) (ed_cmp (ed_var 1 rfl) ed_str c2_neS (by rfl)) (fun hb => ed_one (by obtain ⟨v, rfl⟩ := wd_p hb; obtain ⟨_, _, _, _, _, hv⟩ := h; exact ED.eq (ed_cmp (ed_ix (ED.eq (ed_var 2 rfl) (show _ = D.tup [.str v.n, .tup [.int v.t, .int v.dx, .int v.dy], .int v.c, .int v.r, .int v.sx, .int v.sy] from rfl)) ed_int IX.t0) (ed_fld 0 KL.«Draft» (ed_var 0 rfl)) (c2_inDk hu (k0 := .inr v.n) rfl) (by rfl)) (show _ = D.bl true by rw [hasK_iff.mpr hv]))))) (show _ = D.bl true by rw [Bool.or_true])) rfl (Or.inl ⟨_, _, rfl, rfl, rfl⟩))
abbrev s_Draft_fits_x : Stmt := inClass (top 39) 1
theorem sc_Draft_fits_x : FnScope ["self", "word", "value", "begun"] ["self", "word", "value"] (defScope s_Draft_fits_x) := ⟨rfl, rfl, rfl, by decide +kernel, rfl, by decide +kernel, by decide +kernel⟩
theorem ok_Draft_fits_x {f : Addr} {fd : FuncData} (F : Fun K "fits" "Draft.fits" s_Draft_fits_x f fd) (B : Bt mg) (KC : Kt K mg) (KL : Lt K mg) (WD : Zdt K w mg) (KT : Ktt K mg) (XF : Xt K mg)  :
    FnOk P w K mg base CX0 2 f fd ["self", "word", "value"] (spL K R_Draft_fits_x) := by
  refine fn_okL (k := 1) F sc_Draft_fits_x (fun a cs ds Ψ h => by cases h; rfl) fun a0 cs0 ds Ψ hR cdv A outer s H E hr => ?_
  have nd := sc_Draft_fits_x.nd
  have hu := hr.units
  rcases hR with ⟨p, q, b1, b2, b3, Z, c, t, ok, hB⟩
  unfold drX
  walk_at "en"
  rcases hB with ⟨n, h60⟩ | ⟨n, x, hc, hl60, hn⟩ | ⟨t, hp, hc⟩ | ⟨t, x, hp, hc, hx, hord⟩ | ⟨v, x, hc, hx, hv⟩
  · skip
    refine ws_cons (ws_if (td_cmp (ed_var 1 rfl) ed_str (by walk_at "c2")) (fun hc1 => ?_) (fun hc1 => ?_))
    · skip
      clear hc1
      refine ws_cons (ws_set 3 nd (ED.eq (ed_show 0 _ rfl (fun _ _ v h r => dr_shw v h r) (ed_bin (ed_callB (id := "len") (by rfl) B.«len» bb_len (ad_cons (ed_fld 0 KL.«Draft» (ed_var 0 rfl)) ad_nil) bc_lenDk) (ed_ifI (td_cmp (ed_fld 1 KL.«Draft» (ed_var 0 rfl)) ed_non c2_isN (by rfl)) (fun _ => ed_int) (fun _ => ed_int)) b2_add)) (show _ = D.int (((DSt.mk Z c).all.length : Nat) : Int) from congrArg D.int (begun_eq ⟨Z, c⟩))) ?_)
      walk_at "env"
      refine ws_cons (ws_retC 0 (ED.eq (ed_show 0 _ rfl (fun _ _ v h r => dr_shw v h r) (ed_and (k' := false) (ed_cmp (ed_var 3 rfl) (ed_const KC.«MOST_CELLS» (by rfl)) (by walk_at "c2") (by rfl)) (fun h9 => absurd (of_decide_eq_true h9) (by omega)))) (show _ = D.bl false by rw [Bool.and_false])) rfl (Or.inl ⟨_, _, rfl, rfl⟩))
    · skip
      exfalso; simp [LPart.wd] at hc1
  · skip
    have hc : c = some x := hc
    subst hc
    subst hn
    refine ws_cons (ws_if (td_cmp (ed_var 1 rfl) ed_str (by walk_at "c2")) (fun hc2 => ?_) (fun hc2 => ?_))
    · skip
      clear hc2
      refine ws_cons (ws_set 3 nd (ED.eq (ed_show 0 _ rfl (fun _ _ v h r => dr_shw v h r) (ed_bin (ed_callB (id := "len") (by rfl) B.«len» bb_len (ad_cons (ed_fld 0 KL.«Draft» (ed_var 0 rfl)) ad_nil) bc_lenDk) (ed_ifI (td_cmp (ed_fld 1 KL.«Draft» (ed_var 0 rfl)) ed_non c2_isN (by rfl)) (fun _ => ed_int) (fun _ => ed_int)) b2_add)) (show _ = D.int (((DSt.mk Z (some x)).all.length : Nat) : Int) from congrArg D.int (begun_eq ⟨Z, some x⟩))) ?_)
      walk_at "env"
      refine ws_cons (ws_retC 0 (ED.eq (ed_show 0 _ rfl (fun _ _ v h r => dr_shw v h r) (ed_and (ed_cmp (ed_var 3 rfl) (ed_const KC.«MOST_CELLS» (by rfl)) (by walk_at "c2") (by rfl)) (fun _ => ed_and (k' := false) (ed_cmp (ed_var 2 rfl) (ED.eq (ed_fld 1 KL.«Draft» (ed_var 0 rfl)) (show _ = D.str x.n from rfl)) c2_neS (by rfl)) (fun h9 => absurd h9 (by simp))))) (show _ = D.bl false by rw [Bool.and_false, Bool.and_false])) rfl (Or.inl ⟨_, _, rfl, rfl⟩))
    · skip
      exfalso; simp [LPart.wd] at hc2
  · skip
    have hc : c = none := hc
    subst hc
    refine ws_cons (ws_if (td_cmp (ed_var 1 rfl) ed_str (by walk_at "c2")) (fun hc3 => ?_) (fun hc3 => ?_))
    · skip
      exfalso; rw [hp] at hc3; cases hc3
    · skip
      clear hc3
      refine ws_nil ?_
      refine ws_cons (ws_if (td_show 0 _ rfl (fun _ _ v h r => dr_shw v h r) (td_tw (tw_or (k' := false) (td_cmp (ed_fld 1 KL.«Draft» (ed_var 0 rfl)) ed_non c2_isN (by rfl)) (fun h9 => by cases h9)))) (fun hc4 => ?_) (fun hc4 => ?_))
      · skip
        clear hc4
        refine ws_cons (ws_retC 0 ed_bl rfl (Or.inl ⟨_, _, rfl, ?_⟩))
        rfl
      · skip
        cases hc4
  · skip
    have hc : c = some x := hc
    subst hc
    refine ws_cons (ws_if (td_cmp (ed_var 1 rfl) ed_str (by walk_at "c2")) (fun hc5 => ?_) (fun hc5 => ?_))
    · skip
      exfalso; rw [hp] at hc5; cases hc5
    · skip
      clear hc5
      refine ws_nil ?_
      refine ws_cons (ws_if (td_show 0 _ rfl (fun _ _ v h r => dr_shw v h r) (td_tw (tw_or (td_cmp (ed_fld 1 KL.«Draft» (ed_var 0 rfl)) ed_non c2_isN (by rfl)) (fun _ => tw_or1 (td_cmp (ed_tindex KT.«LINE_ORDER» (by rfl) (ed_var 1 rfl) (wd_lo _)) (ed_tindex KT.«LINE_ORDER» (by rfl) (ED.eq (ed_fld 3 KL.«Draft» (ed_var 0 rfl)) (show _ = D.str x.w from rfl)) hx) c2_lt (by rfl)))))) (fun hc6 => ?_) (fun hc6 => ?_))
      · skip
        clear hc6
        refine ws_cons (ws_retC 0 ed_bl rfl (Or.inl ⟨_, _, rfl, ?_⟩))
        rfl
      · skip
        exfalso; rw [hord] at hc6; simp at hc6
  · skip
    have hc : c = some x := hc
    subst hc
    have hp : decide ((LPart.p v).wd = ("cell" : Str)) = false := wd_l.2.2
    refine ws_cons (ws_if (td_cmp (ed_var 1 rfl) ed_str (by walk_at "c2")) (fun hc7 => ?_) (fun hc7 => ?_))
    · skip
      exfalso; rw [hp] at hc7; cases hc7
    · skip
      clear hc7
      refine ws_nil ?_
      refine ws_cons (ws_if (td_show 0 _ rfl (fun _ _ v h r => dr_shw v h r) (td_tw (tw_or (td_cmp (ed_fld 1 KL.«Draft» (ed_var 0 rfl)) ed_non c2_isN (by rfl)) (fun _ => tw_or1 (td_cmp (ed_tindex KT.«LINE_ORDER» (by rfl) (ed_var 1 rfl) (wd_lo _)) (ed_tindex KT.«LINE_ORDER» (by rfl) (ED.eq (ed_fld 3 KL.«Draft» (ed_var 0 rfl)) (show _ = D.str x.w from rfl)) hx) c2_lt (by rfl)))))) (fun hc8 => ?_) (fun hc8 => ?_))
      · skip
        exfalso; rw [ord_p hx] at hc8; simp [nmD, isNon] at hc8
      · skip
        clear hc8
        refine ws_nil ?_
        refine ws_cons (ws_retC 0 (ED.eq (ed_show 0 _ rfl (fun _ _ v h r => dr_shw v h r) (ed_or (k' := false) (ed_cmp (ed_var 1 rfl) ed_str c2_neS (by rfl)) (fun _ => ed_one (ED.eq (ed_cmp (ed_ix (ED.eq (ed_var 2 rfl) (show _ = D.tup [.str v.n, .tup [.int v.t, .int v.dx, .int v.dy], .int v.c, .int v.r, .int v.sx, .int v.sy] from rfl)) ed_int IX.t0) (ed_fld 0 KL.«Draft» (ed_var 0 rfl)) (c2_inDk hu (k0 := .inr v.n) rfl) (by rfl)) (show _ = D.bl false by rw [hasK_not.mpr hv]))))) (show _ = D.bl false by rw [Bool.or_false]; exact congrArg D.bl (by simp [LPart.wd]))) rfl (Or.inl ⟨_, _, rfl, rfl⟩))
abbrev s_Draft_take : Stmt := inClass (top 39) 2
theorem sc_Draft_take : FnScope ["self", "word", "value"] ["self", "word", "value"] (defScope s_Draft_take) := ⟨rfl, rfl, rfl, by decide +kernel, rfl, by decide +kernel, by decide +kernel⟩
theorem ok_Draft_take {f : Addr} {fd : FuncData} (F : Fun K "take" "Draft.take" s_Draft_take f fd) (B : Bt mg) (KC : Kt K mg) (KL : Lt K mg) (WD : Zdt K w mg) (KT : Ktt K mg) (XF : Xt K mg) (G_Draft_complete : FnML P w K mg base "Draft" "_complete" 5 R_Draft_complete) :
    FnOk P w K mg base CX0 6 f fd ["self", "word", "value"] (spL K R_Draft_take) := by
  refine fn_okL (k := 5) F sc_Draft_take (fun a cs ds Ψ h => by cases h; rfl) fun a0 cs0 ds Ψ hR cdv A outer s H E hr => ?_
  have nd := sc_Draft_take.nd
  have hu := hr.units
  rcases hR with ⟨p, q, b1, b2, b3, Z, c, t, h, hZl⟩
  walk_at "en"
  refine ws_cons (ws_if (td_cmp (ed_var 1 rfl) ed_str (by walk_at "c2")) (fun hc1 => ?_) (fun hc1 => ?_))
  · skip
    obtain ⟨n, rfl⟩ := wd_c hc1
    obtain ⟨g1, g2, g3, g4⟩ := h
    refine ws_cons (ws_exprP (ep_meth0W 0 G_Draft_complete (hr.mono (by decide)) rfl (List.mem_iff_getElem?.mpr ⟨0, rfl⟩) (ed_varX 0 rfl) (.mk a0 p q b1 b2 b3 Z c g1 hZl)) ?_)
    rintro _ _ ⟨_, ⟨rfl, rfl⟩, rfl⟩
    walk_at "env"
    unfold drX
    refine ws_cons (ws_setFCU 0 1 KL.«Draft» rfl (ed_var 2 rfl) ?_)
    walk_at "env"
    refine ws_cons (ws_setFECU 0 2 KL.«Draft» rfl (ec_disp3 ed_str ed_str ed_str (eo_lst ad_nil) (eo_lst ad_nil) (eo_lst ad_nil)) ?_)
    rintro q2 _ ⟨c1, c2, c3, rfl⟩
    walk_at "env"
    refine ws_pickM 0 rfl ?_
    walk_at "env"
    refine ws_nil ?_
    refine ws_cons (ws_setFCU 0 3 KL.«Draft» rfl (ed_var 1 rfl) ?_)
    walk_at "env"
    refine ws_nil ?_
    refine Or.inr ⟨_, _, _, rfl, rfl, ?_⟩
    first
      | exact ⟨q2, c1, c2, c3, rfl, by first | rfl | trivial⟩
      | exact ⟨q, b1, b2, b3, app_end hw, by first | rfl | trivial⟩
  · skip
    have hw := hc1
    obtain ⟨x, hx1, hx2, hx3, hx4⟩ := wd_x hw h
    have hx1 : c = some x := hx1
    subst hx1
    rw [drX_W]
    unfold drW
    have hroom := app_room hw h
    refine ws_cons (ws_appendI 0 (ptM t) rfl (app_at a0 p q b1 b2 b3 Z x x.w t) (ed_dixI 0 (k0 := .inr t.wd) hu rfl (List.mem_iff_getElem?.mpr ⟨2, rfl⟩) (ed_fldC 0 2 KL.«Draft» rfl (List.mem_iff_getElem?.mpr ⟨0, rfl⟩) (ed_varX 0 rfl)) (ed_var 1 rfl) (app_lk hw)) (ed_var 2 rfl) hroom ?_ (fun h h2 => ps_expr (pe_bm PySem.F.plainAttrs_list PySem.F.slot_list_append PySem.F.type_list_append mt_append h h2)))
    walk_at "env"
    rw [show ([(a0, OC.ins "Draft" drN [.ad p, .str x.n, .ad q, .str x.w]), (p, .dk (keyD Z) (cvD Z)), (q, .dk prK [.ad b1, .ad b2, .ad b3]), (b1, .lst (x.S.map shE)), (b2, .lst (x.L.map Lab.e)), (b3, .lst (x.P.map Pla.e))] : Cs).set (ptM t) (ptA b1 b2 b3 t, .lst (ptL x t ++ [t.v])) = drW a0 p q b1 b2 b3 Z (appC x t) x.w from app_set hw]
    unfold drW
    refine ws_nil ?_
    refine ws_cons (ws_setFCU 0 3 KL.«Draft» rfl (ed_var 1 rfl) ?_)
    walk_at "env"
    refine ws_nil ?_
    refine Or.inr ⟨_, _, _, rfl, rfl, ?_⟩
    first
      | exact ⟨q2, c1, c2, c3, rfl, by first | rfl | trivial⟩
      | exact ⟨q, b1, b2, b3, app_end hw, by first | rfl | trivial⟩
abbrev s_Draft_library : Stmt := inClass (top 39) 3
theorem sc_Draft_library : FnScope ["self"] ["self"] (defScope s_Draft_library) := ⟨rfl, rfl, rfl, by decide +kernel, rfl, by decide +kernel, by decide +kernel⟩
theorem ok_Draft_library {f : Addr} {fd : FuncData} (F : Fun K "library" "Draft.library" s_Draft_library f fd) (B : Bt mg) (KC : Kt K mg) (KL : Lt K mg) (WD : Zdt K w mg) (KT : Ktt K mg) (XF : Xt K mg) (G_Draft_complete : FnML P w K mg base "Draft" "_complete" 5 R_Draft_complete) (G_Library_init : FnI P w K mg base "Library" 3 R_Library_init) :
    FnOk P w K mg base CX0 6 f fd ["self"] (spL K R_Draft_library) := by
  refine fn_okL (k := 5) F sc_Draft_library (fun a cs ds Ψ h => by cases h; rfl) fun a0 cs0 ds Ψ hR cdv A outer s H E hr => ?_
  have nd := sc_Draft_library.nd
  have hu := hr.units
  rcases hR with ⟨p, q, b1, b2, b3, Z, c, rs, h, he, ok, hrl⟩
  have hZl : Z.length ≤ 1000 := by have := congrArg List.length he; unfold DSt.all at this; simp only [List.length_append] at this; omega
  unfold DSt.all at he
  simp only at he
  walk_at "en"
  refine ws_cons (ws_exprP (ep_meth0W 0 G_Draft_complete (hr.mono (by decide)) rfl (List.mem_iff_getElem?.mpr ⟨0, rfl⟩) (ed_varX 0 rfl) (.mk a0 p q b1 b2 b3 Z c h hZl)) ?_)
  rintro _ _ ⟨_, ⟨rfl, rfl⟩, rfl⟩
  walk_at "env"
  rw [he]
  unfold drX
  refine ws_cons (ws_retC 0 (ed_own (eo_make G_Library_init (hr.mono (by decide)) (by rfl) (ad_cons (ED.eq (ed_lst (eo_listVals 0 1 rfl (by rfl) B.«list» rfl rfl (ed_fldC 0 0 KL.«Draft» rfl (List.mem_iff_getElem?.mpr ⟨0, rfl⟩) (ed_varX 0 rfl)))) (show _ = D.lst (rs.map celR) from rfl)) ad_nil) (.mk _ rs (.lst _) ok hrl))) rfl (Or.inl ⟨_, _, rfl, ?_⟩))
  rfl
abbrev s_Draft_complete : Stmt := inClass (top 39) 4
theorem sc_Draft_complete : FnScope ["self", "parts"] ["self"] (defScope s_Draft_complete) := ⟨rfl, rfl, rfl, by decide +kernel, rfl, by decide +kernel, by decide +kernel⟩
theorem ok_Draft_complete {f : Addr} {fd : FuncData} (F : Fun K "_complete" "Draft._complete" s_Draft_complete f fd) (B : Bt mg) (KC : Kt K mg) (KL : Lt K mg) (WD : Zdt K w mg) (KT : Ktt K mg) (XF : Xt K mg) (G_Cell_init : FnI P w K mg base "Cell" 3 R_Cell_init) :
    FnOk P w K mg base CX0 5 f fd ["self"] (spL K R_Draft_complete) := by
  refine fn_okL (k := 4) F sc_Draft_complete (fun a cs ds Ψ h => by cases h; rfl) fun a0 cs0 ds Ψ hR cdv A outer s H E hr => ?_
  have nd := sc_Draft_complete.nd
  have hu := hr.units
  rcases hR with ⟨p, q, b1, b2, b3, Z, c, ok, hZl⟩
  walk_at "en"
  refine ws_cons (ws_if (td_cmp (ed_fldC 0 1 KL.«Draft» rfl (List.mem_iff_getElem?.mpr ⟨0, rfl⟩) (ed_varX 0 rfl)) ed_non c2_notN (by rfl)) (fun hc1 => ?_) (fun hc1 => ?_))
  · skip
    obtain ⟨x, rfl⟩ := nmD_some hc1
    have okx := ok x (by simp)
    refine ws_cons (ws_set 1 nd (ed_fldC 0 2 KL.«Draft» rfl (List.mem_iff_getElem?.mpr ⟨0, rfl⟩) (ed_varX 0 rfl)) ?_)
    walk_at "env"
    unfold drX tlD ptD
    refine ws_cons (ws_dputI 0 1 (k0 := .inr x.n) hu rfl rfl (ed_fldC 0 0 KL.«Draft» rfl (List.mem_iff_getElem?.mpr ⟨0, rfl⟩) (ed_varX 0 rfl)) (ed_fldC 0 1 KL.«Draft» rfl (List.mem_iff_getElem?.mpr ⟨0, rfl⟩) (ed_varX 0 rfl)) (ed_own (eo_showI2 0 1 _ _ rfl rfl (by decide) (fun _ _ v h r => dr_show v h r) (fun _ _ v h r => dr_parts v h r) (cel_noT x.n x.S x.L x.P) (eo_make G_Cell_init (hr.mono (by decide)) (by rfl) (ad_cons (ed_fld 1 KL.«Draft» (ed_var 0 rfl)) (ad_cons (ed_dix (k0 := .inr "shape") hu (ed_var 1 rfl) ed_str rfl) (ad_cons (ed_dix (k0 := .inr "label") hu (ed_var 1 rfl) ed_str rfl) (ad_cons (ed_dix (k0 := .inr "place") hu (ed_var 1 rfl) ed_str rfl) ad_nil)))) (.mk x.n x.S x.L x.P _ _ _ (.lst _) (.lst _) (.lst _) okx.n okx.s1 okx.s2 okx.s3 okx.t2 okx.t3 okx.ok)))) okx.new (by unfold keyD; rw [List.length_map, sizeLine_eq]; omega) ?_)
    walk_at "env"
    refine ws_nil ?_
    refine ws_nil ?_
    refine Or.inr ⟨_, _, _, rfl, rfl, ?_⟩
    refine ⟨?_, by first | rfl | trivial⟩
    first
      | (show _ = drX a0 p q b1 b2 b3 (Z ++ [x.rw]) (some x); simp [drX, tlD, ptD, keyD, cvD, DCel.rw, nmD, lwD])
      | (show _ = drX a0 p q b1 b2 b3 (Z ++ []) none; rw [List.append_nil])
  · skip
    have hcn := nmD_none hc1
    subst hcn
    refine ws_nil ?_
    refine ws_nil ?_
    refine Or.inr ⟨_, _, _, rfl, rfl, ?_⟩
    refine ⟨?_, by first | rfl | trivial⟩
    first
      | (show _ = drX a0 p q b1 b2 b3 (Z ++ [x.rw]) (some x); simp [drX, tlD, ptD, keyD, cvD, DCel.rw, nmD, lwD])
      | (show _ = drX a0 p q b1 b2 b3 (Z ++ []) none; rw [List.append_nil])
abbrev s_parse_library : Stmt := top 40
theorem sc_parse_library : FnScope ["text", "draft", "lines", "number", "line", "part"] ["text"] (defScope s_parse_library) := ⟨rfl, rfl, rfl, by decide +kernel, rfl, by decide +kernel, by decide +kernel⟩
theorem ok_parse_library {f : Addr} {fd : FuncData} (F : Fun K "parse_library" "parse_library" s_parse_library f fd) (B : Bt mg) (KC : Kt K mg) (KL : Lt K mg) (WD : Zdt K w mg) (KT : Ktt K mg) (XF : Xt K mg) (G_Draft_init : FnIL P w K mg base "Draft" 1 R_Draft_init) (G_Draft_fits_v : FnML P w K mg base "Draft" "fits" 1 R_Draft_fits_v) (G_Draft_library : FnML P w K mg base "Draft" "library" 6 R_Draft_library) (G_Draft_take : FnML P w K mg base "Draft" "take" 6 R_Draft_take) (G_read_part_c : Fn P w K mg base "read_part" 4 R_read_part_c) (G_read_part_l : Fn P w K mg base "read_part" 6 R_read_part_l) (G_read_part_p : Fn P w K mg base "read_part" 7 R_read_part_p) (G_read_part_s : Fn P w K mg base "read_part" 5 R_read_part_s) :
    FnOk P w K mg base CX0 9 f fd ["text"] (spR K R_parse_library) := by
  refine fn_ok (k := 8) F sc_parse_library (fun ds d h => by cases h <;> rfl) fun ds d hR cdv A outer s H E hr => ?_
  have nd := sc_parse_library.nd
  have hu := hr.units
  rcases hR with ⟨rs, t⟩
  have hrl := t.few
  have htl := txR_len t
  walk_at "en"
  refine ws_cons (ws_setC 1 nd (ec_make0 G_Draft_init (hr.mono (by decide)) (by rfl) (fun a => .mk a)) ?_)
  rintro a1 _ ⟨p1, q1, rfl⟩
  walk_at "env"
  refine ws_cons (ws_set 2 nd (ED.eq (ed_ifv (td_cmp (ed_var 0 rfl) ed_str (by walk_at "c2")) (fun hc1 => (ed_lst (eo_split (ed_var 0 rfl) ed_str (by decide +kernel) (by rw [sizeLine_eq]; omega)))) (fun hc1 => (ed_lst (eo_lst ad_nil)))) (show _ = (D.lst (((prts rs).map fun p => lnW p.ws).map .str)) from by exact txR_if t)) ?_)
  walk_at "env"
  refine ws_cons (ws_forX (List.range ((prts rs).length)) (fun (i : Nat) => D.tup [.int (((1 : Nat) : Int) + (i : Int)), .str (lnW ((prts rs).getD i p00).ws)]) rfl (id_enumS (k := 1) (by rfl) B.«enumerate» (ed_var 2 rfl)) (by exact txR_enum) (γ := Addr × Addr × Addr × Addr) (U := Sl × Sl × Sl) (fun i g u => [(1, .ox (drX a1 p1 g.1 g.2.1 g.2.2.1 g.2.2.2 (runD ((prts rs).take i)).Z (runD ((prts rs).take i)).c) (.ad a1)), (3, u.1), (4, u.2.1), (5, u.2.2)]) (fun r => (r.getD 3 .no, r.getD 4 .no, r.getD 5 .no)) (fun _ _ => True) ((q1, q1, q1, q1)) rfl (True.intro) ?_ ?_)
  · intro i0 t g0 u0 hx0 hP0
    obtain rfl : i0 = t := by
      obtain ⟨hl, he⟩ := List.getElem?_eq_some_iff.mp hx0
      rw [List.getElem_range] at he; exact he
    have hi0 : i0 < (prts rs).length := by have := (List.getElem?_eq_some_iff.mp hx0).1; rwa [List.length_range] at this
    have hli : (prts rs)[i0]? = some ((prts rs).getD i0 p00) := by rw [List.getD_eq_getElem?_getD, List.getElem?_eq_getElem hi0]; rfl
    obtain ⟨t0, ht0⟩ : ∃ t0, t0 = (prts rs).getD i0 p00 := ⟨_, rfl⟩
    rw [← ht0] at hli ⊢
    have hok := parts_ok rs t i0 t0 hli
    clear ht0
    refine ⟨_, _, (dg_tup rfl (dgs_cons (dg_name 3 nd) (dgs_cons (dg_name 4 nd) dgs_nil))), ?_⟩
    walk_at "env"
    refine ws_cons (ws_set 5 nd (show ED _ _ _ (D.tup [.str t0.wd, t0.v]) by cases t0 with
  | c n => exact ed_call G_read_part_c (hr.mono (by decide)) (by rfl) (ad_cons (ed_var 4 rfl) ad_nil) (.mk _ hok.ok)
  | s v => exact ed_call G_read_part_s (hr.mono (by decide)) (by rfl) (ad_cons (ed_var 4 rfl) ad_nil) (.mk _ hok.ok)
  | l v => exact ed_call G_read_part_l (hr.mono (by decide)) (by rfl) (ad_cons (ed_var 4 rfl) ad_nil) (.mk _ hok.ok)
  | p v => exact ed_call G_read_part_p (hr.mono (by decide)) (by rfl) (ad_cons (ed_var 4 rfl) ad_nil) (.mk _ hok.ok)) ?_)
    walk_at "env"
    refine ws_cons (ws_ifP (tp_or2 (td_cmp (ed_var 5 rfl) ed_non c2_isN (by rfl)) (tp_not (tp_val (ep_methW 1 G_Draft_fits_v (hr.mono (by decide)) rfl (List.mem_iff_getElem?.mpr ⟨0, rfl⟩) (ed_varX 1 rfl) (ad_cons (ed_ix (ed_var 5 rfl) ed_int IX.t0) (ad_cons (ed_ix (ed_var 5 rfl) ed_int IX.t1) ad_nil)) (.mk a1 p1 g0.1 g0.2.1 g0.2.2.1 g0.2.2.2 (runD ((prts rs).take i0)).Z (runD ((prts rs).take i0)).c t0 hok)) (fun d ρ' hw => by obtain ⟨_, ⟨_, e⟩, _⟩ := hw; exact ⟨true, e⟩)))) ?_ ?_)
    · rintro _ ⟨_, ⟨_, e⟩, _⟩
      cases e
    rintro _ ⟨_, ⟨rfl, _⟩, rfl⟩
    walk_at "env"
    refine ws_nil ?_
    refine ws_cons (ws_exprP (ep_methW 1 G_Draft_take (hr.mono (by decide)) rfl (List.mem_iff_getElem?.mpr ⟨0, rfl⟩) (ed_varX 1 rfl) (ad_cons (ed_ix (ed_var 5 rfl) ed_int IX.t0) (ad_cons (ed_ix (ed_var 5 rfl) ed_int IX.t1) ad_nil)) (.mk a1 p1 g0.1 g0.2.1 g0.2.2.1 g0.2.2.2 (runD ((prts rs).take i0)).Z (runD ((prts rs).take i0)).c t0 hok (runD_Zlen t i0))) ?_)
    rintro _ _ ⟨_, ⟨q2, c1, c2, c3, rfl, rfl⟩, rfl⟩
    walk_at "env"
    refine ws_nil ?_
    exact ⟨(q2, c1, c2, c3), by rw [List.take_add_one, hli]; simp only [Option.toList]; rw [runD_snoc]; rfl, True.intro⟩
  · intro g0 u0 hP0
    walk_at "env"
    rw [List.length_range, List.take_length]
    refine ws_cons (ws_retP2 (ep_meth0W 1 G_Draft_library (hr.mono (by decide)) rfl (List.mem_iff_getElem?.mpr ⟨0, rfl⟩) (ed_varX 1 rfl) (.mk a1 p1 g0.1 g0.2.1 g0.2.2.1 g0.2.2.2 (runD (prts rs)).Z (runD (prts rs)).c rs (runD_cur t) (runD_full rs) t.ok t.few)) ?_)
    rintro _ _ ⟨_, rfl, rfl⟩
    exact Or.inl rfl
theorem okX_parse_library {f : Addr} {fd : FuncData} (F : Fun K "parse_library" "parse_library" s_parse_library f fd) (B : Bt mg) (KC : Kt K mg) (KL : Lt K mg) (WD : Zdt K w mg) (KT : Ktt K mg) (XF : Xt K mg) (G_Draft_init : FnIL P w K mg base "Draft" 1 R_Draft_init) (G_Draft_fits_v : FnML P w K mg base "Draft" "fits" 1 R_Draft_fits_v) (G_Draft_fits_x : FnML P w K mg base "Draft" "fits" 2 R_Draft_fits_x) (G_Draft_take : FnML P w K mg base "Draft" "take" 6 R_Draft_take) (G_read_part_c : Fn P w K mg base "read_part" 4 R_read_part_c) (G_read_part_l : Fn P w K mg base "read_part" 6 R_read_part_l) (G_read_part_p : Fn P w K mg base "read_part" 7 R_read_part_p) (G_read_part_s : Fn P w K mg base "read_part" 5 R_read_part_s) (G_read_part_x : Fn P w K mg base "read_part" 8 R_read_part_x) (GE_InvalidText : FnEr P w K mg base "InvalidText" ["line"] 1 R_E_InvalidText) :
    FnOk P w K mg base (L2N.CX P w) 9 f fd ["text"] (spXG K RX_parse_library) := by
  refine fn_okXG (k := 8) F sc_parse_library (fun ds c h => by cases h; rfl) fun ds cn hR cdv A outer s H E hr => ?_
  have nd := sc_parse_library.nd
  have hu := hr.units
  rcases hR with ⟨W, k, hP⟩
  have hok9 := hP.ok
  rcases hP with ⟨ls, ww, rr, x⟩
  refine ⟨nosE 6, ?_⟩
  walk_at "en"
  refine xg_cons (ws_setC 1 nd (ec_make0 G_Draft_init (hr.mono (by decide)) (by rfl) (fun a => .mk a)) ?_)
  rintro a1 _ ⟨p1, q1, rfl⟩
  walk_at "env"
  refine xg_cons (ws_set 2 nd (ED.eq (ed_ifv (td_cmp (ed_var 0 rfl) ed_str (by walk_at "c2")) (fun hc1 => (ed_lst (eo_split (ed_var 0 rfl) ed_str (by decide +kernel) (by have := txM_len hok9.1 hok9.2.1; rw [sizeLine_eq]; omega)))) (fun hc1 => (ed_lst (eo_lst ad_nil)))) (show _ = (D.lst (((tlL ls ww rr).map lnW).map .str)) from by exact txM_if hok9.1 hok9.2.2.1)) ?_)
  walk_at "env"
  refine xg_head (xg_forX (List.range (tlL ls ww rr).length) (fun (i : Nat) => D.tup [.int (((1 : Nat) : Int) + (i : Int)), .str (lnW ((tlL ls ww rr).getD i []))]) rfl (id_enumS (k := 1) (by rfl) B.«enumerate» (ed_var 2 rfl)) (by exact txM_enum _) (γ := Addr × Addr × Addr × Addr) (U := Sl × Sl × Sl) (fun i g u => [(1, .ox (drX a1 p1 g.1 g.2.1 g.2.2.1 g.2.2.2 (runD (ls.take i)).Z (runD (ls.take i)).c) (.ad a1)), (3, u.1), (4, u.2.1), (5, u.2.2)]) (fun r => (r.getD 3 .no, r.getD 4 .no, r.getD 5 .no)) (fun _ _ => True) ((q1, q1, q1, q1)) (ls.length) (by rw [List.getElem?_range (by rw [tlL_len]; omega)]) (rfl) (True.intro) ?_ ?_ (by first | exact passes_of rfl | assumption))
  · intro i0 t9 g0 u0 hlt0 hx0 hP0
    obtain rfl : i0 = t9 := by
      obtain ⟨hl9, he9⟩ := List.getElem?_eq_some_iff.mp hx0
      rw [List.getElem_range] at he9; exact he9
    obtain ⟨t0, hli⟩ : ∃ l, ls[i0]? = some l := ⟨ls[i0], List.getElem?_eq_getElem hlt0⟩
    have hok := x.ok i0 t0 hli
    rw [tlL_at hli]
    refine ⟨_, _, (dg_tup rfl (dgs_cons (dg_name 3 nd) (dgs_cons (dg_name 4 nd) dgs_nil))), ?_⟩
    walk_at "env"
    refine ws_cons (ws_set 5 nd (show ED _ _ _ (D.tup [.str t0.wd, t0.v]) by cases t0 with
  | c n => exact ed_call G_read_part_c (hr.mono (by decide)) (by rfl) (ad_cons (ed_var 4 rfl) ad_nil) (.mk _ hok.ok)
  | s v => exact ed_call G_read_part_s (hr.mono (by decide)) (by rfl) (ad_cons (ed_var 4 rfl) ad_nil) (.mk _ hok.ok)
  | l v => exact ed_call G_read_part_l (hr.mono (by decide)) (by rfl) (ad_cons (ed_var 4 rfl) ad_nil) (.mk _ hok.ok)
  | p v => exact ed_call G_read_part_p (hr.mono (by decide)) (by rfl) (ad_cons (ed_var 4 rfl) ad_nil) (.mk _ hok.ok)) ?_)
    walk_at "env"
    refine ws_cons (ws_ifP (tp_or2 (td_cmp (ed_var 5 rfl) ed_non c2_isN (by rfl)) (tp_not (tp_val (ep_methW 1 G_Draft_fits_v (hr.mono (by decide)) rfl (List.mem_iff_getElem?.mpr ⟨0, rfl⟩) (ed_varX 1 rfl) (ad_cons (ed_ix (ed_var 5 rfl) ed_int IX.t0) (ad_cons (ed_ix (ed_var 5 rfl) ed_int IX.t1) ad_nil)) (.mk a1 p1 g0.1 g0.2.1 g0.2.2.1 g0.2.2.2 (runD (ls.take i0)).Z (runD (ls.take i0)).c t0 hok)) (fun d ρ' hw => by obtain ⟨_, ⟨_, e⟩, _⟩ := hw; exact ⟨true, e⟩)))) ?_ ?_)
    · rintro _ ⟨_, ⟨_, e⟩, _⟩
      cases e
    rintro _ ⟨_, ⟨rfl, _⟩, rfl⟩
    walk_at "env"
    refine ws_nil ?_
    refine ws_cons (ws_exprP (ep_methW 1 G_Draft_take (hr.mono (by decide)) rfl (List.mem_iff_getElem?.mpr ⟨0, rfl⟩) (ed_varX 1 rfl) (ad_cons (ed_ix (ed_var 5 rfl) ed_int IX.t0) (ad_cons (ed_ix (ed_var 5 rfl) ed_int IX.t1) ad_nil)) (.mk a1 p1 g0.1 g0.2.1 g0.2.2.1 g0.2.2.2 (runD (ls.take i0)).Z (runD (ls.take i0)).c t0 hok (x.zl i0))) ?_)
    rintro _ _ ⟨_, ⟨q2, c1, c2, c3, rfl, rfl⟩, rfl⟩
    walk_at "env"
    refine ws_nil ?_
    exact ⟨(q2, c1, c2, c3), by rw [List.take_add_one, hli]; simp only [Option.toList]; rw [runD_snoc]; rfl, True.intro⟩
  · intro g0 u0 hP0
    have hw := x.w
    have hbad := x.bad
    rw [tlL_end, List.take_length]
    refine ⟨_, _, (dg_tup rfl (dgs_cons (dg_name 3 nd) (dgs_cons (dg_name 4 nd) dgs_nil))), ?_⟩
    walk_at "env"
    rcases hbad with ⟨ww, hno⟩ | ⟨t9, ok9, hfb⟩
    · skip
      refine xg_cons (ws_set 5 nd (ed_call G_read_part_x (hr.mono (by decide)) (by rfl) (ad_cons (ed_var 4 rfl) ad_nil) (.mk _ hw hno)) ?_)
      walk_at "env"
      refine xg_head (xg_ifP (tp_orT (Ψ := fun b ρ9 => b = true ∧ ρ9 = _) (td_cmp (ed_var 5 rfl) ed_non c2_isN (by rfl)) ⟨rfl, rfl⟩) ?_ ?_)
      · skip
        rintro _ ⟨_, rfl⟩
        exact xg_no (xg_head (xg_raiseF GE_InvalidText (hr.mono (by decide)) (by rfl) (ad_cons (ed_var 3 rfl) ad_nil) (by exact .mk _ (sm_small (Nat.le_trans (show _ ≤ 1300 by have := hok9.2.2.2; omega) (by decide))))))
      · rintro _ ⟨h9, _⟩; cases h9
    · skip
      refine xg_cons (ws_set 5 nd (show ED _ _ _ (D.tup [.str t9.wd, t9.v]) by cases t9 with
  | c n => exact ed_call G_read_part_c (hr.mono (by decide)) (by rfl) (ad_cons (ed_var 4 rfl) ad_nil) (.mk _ ok9)
  | s v => exact ed_call G_read_part_s (hr.mono (by decide)) (by rfl) (ad_cons (ed_var 4 rfl) ad_nil) (.mk _ ok9)
  | l v => exact ed_call G_read_part_l (hr.mono (by decide)) (by rfl) (ad_cons (ed_var 4 rfl) ad_nil) (.mk _ ok9)
  | p v => exact ed_call G_read_part_p (hr.mono (by decide)) (by rfl) (ad_cons (ed_var 4 rfl) ad_nil) (.mk _ ok9)) ?_)
      walk_at "env"
      refine xg_head (xg_ifP (tp_or2 (td_cmp (ed_var 5 rfl) ed_non c2_isN (by rfl)) (tp_not (tp_val (ep_methW 1 G_Draft_fits_x (hr.mono (by decide)) rfl (List.mem_iff_getElem?.mpr ⟨0, rfl⟩) (ed_varX 1 rfl) (ad_cons (ed_ix (ed_var 5 rfl) ed_int IX.t0) (ad_cons (ed_ix (ed_var 5 rfl) ed_int IX.t1) ad_nil)) (.mk a1 p1 g0.1 g0.2.1 g0.2.2.1 g0.2.2.2 (runD ls).Z (runD ls).c t9 ok9 hfb)) (fun d ρ' hw => by obtain ⟨_, rfl, _⟩ := hw; exact ⟨false, rfl⟩)))) ?_ ?_)
      · skip
        rintro _ ⟨_, e9, rfl⟩
        walk_at "env"
        exact xg_no (xg_head (xg_raiseF GE_InvalidText (hr.mono (by decide)) (by rfl) (ad_cons (ed_var 3 rfl) ad_nil) (by exact .mk _ (sm_small (Nat.le_trans (show _ ≤ 1300 by have := hok9.2.2.2; omega) (by decide))))))
      · rintro _ ⟨_, e9, _⟩; cases e9
abbrev s_law_cell : Stmt := top 42
theorem sc_law_cell : FnScope ["script", "k"] ["script", "k"] (defScope s_law_cell) := ⟨rfl, rfl, rfl, by decide +kernel, rfl, by decide +kernel, by decide +kernel⟩
theorem ok_law_cell {f : Addr} {fd : FuncData} (F : Fun K "_law_cell" "_law_cell" s_law_cell f fd) (B : Bt mg) (KC : Kt K mg) (KL : Lt K mg) (WD : Zdt K w mg) (KT : Ktt K mg) (XF : Xt K mg)  :
    FnOk P w K mg base CX0 1 f fd ["script", "k"] (spR K R_law_cell) := by
  refine fn_ok (k := 0) F sc_law_cell (fun ds d h => by cases h <;> rfl) fun ds d hR cdv A outer s H E hr => ?_
  have nd := sc_law_cell.nd
  have hu := hr.units
  rcases hR with ⟨ns, k, h0⟩
  walk_at "en"
  refine ws_cons (ws_if (td_cmp (ed_var 1 rfl) (ed_callB (id := "len") (by rfl) B.«len» bb_len (ad_cons (ed_var 0 rfl) ad_nil) (by walk_at "bc")) (by walk_at "c2")) (fun hc1 => ?_) (fun hc1 => ?_))
  · skip
    simp only [decide_eq_true_eq, List.length_map] at hc1
    refine ws_cons (ws_ret (ED.eq (ed_ix (ed_var 0 rfl) (ed_var 1 rfl) (IX.l (at_ints (k := k.toNat) (x := cellAt ns k) (by omega) (by unfold cellAt; simp [show k.toNat < ns.length by omega])))) ?_) (Or.inl rfl))
    rfl
  · skip
    simp only [decide_eq_false_iff_not, List.length_map] at hc1
    refine ws_nil ?_
    refine ws_cons (ws_ret (ED.eq ed_int ?_) (Or.inl rfl))
    unfold cellAt; rw [List.getD_eq_getElem?_getD, List.getElem?_eq_none (by omega)]; rfl
abbrev s_law_draws : Stmt := top 43
theorem sc_law_draws : FnScope ["cell", "count", "rows", "left", "k", "mixed"] ["cell", "count"] (defScope s_law_draws) := ⟨rfl, rfl, rfl, by decide +kernel, rfl, by decide +kernel, by decide +kernel⟩
theorem ok_law_draws {f : Addr} {fd : FuncData} (F : Fun K "_law_draws" "_law_draws" s_law_draws f fd) (B : Bt mg) (KC : Kt K mg) (KL : Lt K mg) (WD : Zdt K w mg) (KT : Ktt K mg) (XF : Xt K mg)  :
    FnOk P w K mg base CX0 1 f fd ["cell", "count"] (spR K R_law_draws) := by
  refine fn_ok (k := 0) F sc_law_draws (fun ds d h => by cases h <;> rfl) fun ds d hR cdv A outer s H E hr => ?_
  have nd := sc_law_draws.nd
  have hu := hr.units
  rcases hR with ⟨c, n, h0, h1⟩
  walk_at "en"
  refine ws_cons (ws_setO 2 nd (eo_lst ad_nil) ?_)
  walk_at "env"
  refine ws_cons (ws_set 3 nd (ed_var 0 rfl) ?_)
  walk_at "env"
  refine ws_cons (ws_forU (List.range n.toNat) (fun (i : Nat) => D.int (i : Int)) rfl (id_range1 (by rfl) B.«range» (ed_var 1 rfl) (by walk_at "side")) (by exact rngD0 _) (U := Sl × Sl) (fun i u => [(2, .ow (.lst ((drawn c i).1.map D.int))), (3, .sh (.int (drawn c i).2)), (4, u.1), (5, u.2)]) (fun r => (r.getD 4 .no, r.getD 5 .no)) (fun _ => True) (rfl) (True.intro) ?_ ?_)
  · intro i0 t u0 hx0 hP0
    obtain rfl : i0 = t := by
      obtain ⟨hl, he⟩ := List.getElem?_eq_some_iff.mp hx0
      rw [List.getElem_range] at he; exact he
    refine ⟨_, _, (dg_name 4 nd), ?_⟩
    walk_at "env"
    refine ws_cons (ws_if (td_tw (tw_and (td_cmp (ed_var 0 rfl) (ed_bin ed_int ed_int (b2_powL (n := 1000000000000000000) ⟨by decide, by decide, by decide⟩ (by decide))) (by walk_at "c2")) (fun hb2 => (tw_and1 (td_cmp (ed_var 3 rfl) ed_int (by walk_at "c2")))))) (fun hc1 => ?_) (fun hc1 => ?_))
    · skip
      simp only [Bool.and_eq_true, decide_eq_true_eq] at hc1
      have e : drawn c (i0 + 1) = ((drawn c i0).1 ++ [(drawn c i0).2 % 4096], (drawn c i0).2 / 4096) := by
        rw [drawn_succ]; unfold drawStep; rw [if_pos hc1]
      refine ws_cons (ws_append 2 rfl (ed_bin (ed_callT (T := "int") (by rfl) B.«int» bb_int (ad_cons (ed_var 3 rfl) ad_nil) (by walk_at "bc")) ed_int (by walk_at "b2")) (by rw [List.length_map, (draws_spec c i0).1, sizeLine_eq]; have := (List.getElem?_eq_some_iff.mp hx0).1; rw [List.length_range] at this; omega) ?_ (fun h => ps_expr (pe_bm PySem.F.plainAttrs_list PySem.F.slot_list_append PySem.F.type_list_append mt_append (pv 2) h)))
      walk_at "env"
      refine ws_cons (ws_set 3 nd (ed_bin (ed_var 3 rfl) ed_int (by walk_at "b2")) ?_)
      walk_at "env"
      refine ws_nil ?_
      refine ws_nil ?_
      refine ⟨?_, True.intro⟩
      rw [e, List.map_append]
      rfl
    · skip
      have e : drawn c (i0 + 1) = ((drawn c i0).1 ++ [mix3 c i0 / 7 % 4096], (drawn c i0).2) := by
        rw [drawn_succ]; unfold drawStep; rw [if_neg]; intro z; rw [decide_eq_true z.1, decide_eq_true z.2] at hc1; cases hc1
      refine ws_cons (ws_set 5 nd (ed_bin (ed_callT (T := "int") (by rfl) B.«int» bb_int (ad_cons (ed_bin (ed_bin (ed_var 0 rfl) ed_int (by walk_at "b2")) (ed_bin (ed_bin (ed_var 4 rfl) ed_int (by walk_at "b2")) ed_int (by walk_at "b2")) (by walk_at "b2")) ad_nil) (by walk_at "bc")) ed_int (by walk_at "b2")) ?_)
      walk_at "env"
      refine ws_cons (ws_set 5 nd (ed_bin (ed_callT (T := "int") (by rfl) B.«int» bb_int (ad_cons (ed_bin (ed_bin (ed_bin (ed_var 5 rfl) (ed_var 5 rfl) (by walk_at "b2")) (ed_bin (ed_var 5 rfl) ed_int (by walk_at "b2")) (by walk_at "b2")) (ed_bin (ed_var 4 rfl) ed_int (by walk_at "b2")) (by walk_at "b2")) ad_nil) (by walk_at "bc")) ed_int (by walk_at "b2")) ?_)
      walk_at "env"
      refine ws_cons (ws_set 5 nd (ed_bin (ed_callT (T := "int") (by rfl) B.«int» bb_int (ad_cons (ed_bin (ed_bin (ed_bin (ed_var 5 rfl) (ed_var 5 rfl) (by walk_at "b2")) (ed_var 0 rfl) (by walk_at "b2")) (ed_bin ed_int (ed_var 4 rfl) (by walk_at "b2")) (by walk_at "b2")) ad_nil) (by walk_at "bc")) ed_int (by walk_at "b2")) ?_)
      walk_at "env"
      refine ws_cons (ws_append 2 rfl (ed_bin (ed_bin (ed_var 5 rfl) ed_int (by walk_at "b2")) ed_int (by walk_at "b2")) (by rw [List.length_map, (draws_spec c i0).1, sizeLine_eq]; have := (List.getElem?_eq_some_iff.mp hx0).1; rw [List.length_range] at this; omega) ?_ (fun h => ps_expr (pe_bm PySem.F.plainAttrs_list PySem.F.slot_list_append PySem.F.type_list_append mt_append (pv 2) h)))
      walk_at "env"
      refine ws_nil ?_
      refine ws_nil ?_
      refine ⟨?_, True.intro⟩
      rw [e, List.map_append]
      rfl
  · intro u0 hP0
    walk_at "env"
    rw [List.length_range]
    refine ws_share 2 rfl ?_
    refine ws_cons (ws_ret (ED.eq (ed_var 2 rfl) ?_) (Or.inl rfl))
    rfl
abbrev s_law_box_of : Stmt := top 44
theorem sc_law_box_of : FnScope ["draw", "more", "x0", "y0"] ["draw", "more"] (defScope s_law_box_of) := ⟨rfl, rfl, rfl, by decide +kernel, rfl, by decide +kernel, by decide +kernel⟩
theorem ok_law_box_of {f : Addr} {fd : FuncData} (F : Fun K "_law_box_of" "_law_box_of" s_law_box_of f fd) (B : Bt mg) (KC : Kt K mg) (KL : Lt K mg) (WD : Zdt K w mg) (KT : Ktt K mg) (XF : Xt K mg)  :
    FnOk P w K mg base CX0 1 f fd ["draw", "more"] (spR K R_law_box_of) := by
  refine fn_ok (k := 0) F sc_law_box_of (fun ds d h => by cases h <;> rfl) fun ds d hR cdv A outer s H E hr => ?_
  have nd := sc_law_box_of.nd
  have hu := hr.units
  cases hR
  walk_at "en"
  refine ws_cons (ws_set 2 nd (ed_bin (ed_bin (ed_var 0 rfl) ed_int (by walk_at "b2")) ed_int (by walk_at "b2")) ?_)
  walk_at "env"
  refine ws_cons (ws_set 3 nd (ed_bin (ed_bin (ed_bin (ed_var 0 rfl) ed_int (by walk_at "b2")) ed_int (by walk_at "b2")) ed_int (by walk_at "b2")) ?_)
  walk_at "env"
  refine ws_cons (ws_ret (ED.eq (ed_tup (ad_cons (ed_var 2 rfl) (ad_cons (ed_var 3 rfl) (ad_cons (ed_bin (ed_bin (ed_var 2 rfl) ed_int (by walk_at "b2")) (ed_bin (ed_bin (ed_var 0 rfl) ed_int (by walk_at "b2")) ed_int (by walk_at "b2")) (by walk_at "b2")) (ad_cons (ed_bin (ed_bin (ed_var 3 rfl) ed_int (by walk_at "b2")) (ed_bin (ed_var 1 rfl) ed_int (by walk_at "b2")) (by walk_at "b2")) ad_nil))))) ?_) (Or.inl rfl))
  rfl
abbrev s_law_name : Stmt := top 45
theorem sc_law_name : FnScope ["draw", "letters", "tail"] ["draw"] (defScope s_law_name) := ⟨rfl, rfl, rfl, by decide +kernel, rfl, by decide +kernel, by decide +kernel⟩
theorem ok_law_name {f : Addr} {fd : FuncData} (F : Fun K "_law_name" "_law_name" s_law_name f fd) (B : Bt mg) (KC : Kt K mg) (KL : Lt K mg) (WD : Zdt K w mg) (KT : Ktt K mg) (XF : Xt K mg)  :
    FnOk P w K mg base CX0 1 f fd ["draw"] (spR K R_law_name) := by
  refine fn_ok (k := 0) F sc_law_name (fun ds d h => by cases h <;> rfl) fun ds d hR cdv A outer s H E hr => ?_
  have nd := sc_law_name.nd
  have hu := hr.units
  rcases hR with ⟨d, hd⟩
  walk_at "en"
  refine ws_cons (ws_set 1 nd ed_str ?_)
  walk_at "env"
  refine ws_cons (ws_setO 2 nd (eo_lst (ad_cons ed_str (ad_cons ed_str (ad_cons ed_str (ad_cons ed_str (ad_cons ed_str (ad_cons ed_str ad_nil))))))) ?_)
  refine ws_share 2 rfl ?_
  walk_at "env"
  refine ws_cons (ws_ret (ED.eq (ed_bin (ed_ixS (ed_var 1 rfl) (ed_bin (ed_var 0 rfl) ed_int (by walk_at "b2")) (by decide +kernel) (at_ltr (by omega) (by omega))) (ed_ix (ed_var 2 rfl) (ed_bin (ed_bin (ed_var 0 rfl) ed_int (by walk_at "b2")) ed_int (by walk_at "b2")) (.l (at_tls (by omega) (by omega)))) (b2_addS (by have := tls_len (d / 26 % 6).toNat; rw [sizeLine_eq]; show 1 + _ ≤ _; omega))) ?_) (Or.inl rfl))
  rfl
abbrev s_law_qlayer : Stmt := top 46
theorem sc_law_qlayer : FnScope ["draw"] ["draw"] (defScope s_law_qlayer) := ⟨rfl, rfl, rfl, by decide +kernel, rfl, by decide +kernel, by decide +kernel⟩
theorem ok_law_qlayer {f : Addr} {fd : FuncData} (F : Fun K "_law_qlayer" "_law_qlayer" s_law_qlayer f fd) (B : Bt mg) (KC : Kt K mg) (KL : Lt K mg) (WD : Zdt K w mg) (KT : Ktt K mg) (XF : Xt K mg)  :
    FnOk P w K mg base CX0 1 f fd ["draw"] (spR K R_law_qlayer) := by
  refine fn_ok (k := 0) F sc_law_qlayer (fun ds d h => by cases h <;> rfl) fun ds d hR cdv A outer s H E hr => ?_
  have nd := sc_law_qlayer.nd
  have hu := hr.units
  rcases hR with ⟨d⟩
  walk_at "en"
  refine ws_cons (ws_ret (ED.eq (ED.eq (ed_ix (ED.eq (ed_lst (eo_lst (ad_cons ed_str (ad_cons ed_str (ad_cons ed_str (ad_cons ed_str (ad_cons ed_str (ad_cons ed_str (ad_cons ed_str ad_nil))))))))) (show _ = D.lst (layN.map .str) from rfl)) (ed_bin (ed_var 0 rfl) ed_int (by walk_at "b2")) (.l (at_getC (xs := layN) (f := D.str) (i := d % 7) (a := "") (by show _ ∧ _ < (7 : Int); omega)))) (show _ = D.str (layAt d) from rfl)) ?_) (Or.inl rfl))
  rfl
abbrev s_law_qshapes : Stmt := top 47
theorem sc_law_qshapes : FnScope ["cell", "most", "draws", "found", "k"] ["cell", "most"] (defScope s_law_qshapes) := ⟨rfl, rfl, rfl, by decide +kernel, rfl, by decide +kernel, by decide +kernel⟩
theorem ok_law_qshapes {f : Addr} {fd : FuncData} (F : Fun K "_law_qshapes" "_law_qshapes" s_law_qshapes f fd) (B : Bt mg) (KC : Kt K mg) (KL : Lt K mg) (WD : Zdt K w mg) (KT : Ktt K mg) (XF : Xt K mg) (G_law_box_of : Fn P w K mg base "_law_box_of" 1 R_law_box_of) (G_law_draws : Fn P w K mg base "_law_draws" 1 R_law_draws) (G_law_qlayer : Fn P w K mg base "_law_qlayer" 1 R_law_qlayer) :
    FnOk P w K mg base CX0 2 f fd ["cell", "most"] (spR K R_law_qshapes) := by
  refine fn_ok (k := 1) F sc_law_qshapes (fun ds d h => by cases h <;> rfl) fun ds d hR cdv A outer s H E hr => ?_
  have nd := sc_law_qshapes.nd
  have hu := hr.units
  rcases hR with ⟨c, m, hm⟩
  have hq := qCnt3_le (c := c) hm.1
  have hq0 := Int.emod_nonneg (dr c (3 * m + 1) (3 * m)) (show m + 1 ≠ 0 by omega)
  have hq1 := Int.emod_lt_of_pos (dr c (3 * m + 1) (3 * m)) (show (0 : Int) < m + 1 by omega)
  walk_at "en"
  refine ws_cons (ws_set 2 nd (ed_call G_law_draws (hr.mono (by decide)) (by rfl) (ad_cons (ed_var 0 rfl) (ad_cons (ed_bin (ed_bin ed_int (ed_var 1 rfl) (by walk_at "b2")) ed_int (by walk_at "b2")) ad_nil)) (by first | exact .mk _ _ (by decide) (by decide) | exact .mk _ _ (by omega) (by omega))) ?_)
  walk_at "env"
  refine ws_cons (ws_setO 3 nd (eo_lst ad_nil) ?_)
  walk_at "env"
  refine ws_cons (ws_forU (List.range (qCnt3 c m)) (fun (i : Nat) => D.int (i : Int)) rfl (id_range1 (by rfl) B.«range» (ed_bin (ed_ix (ed_var 2 rfl) (ed_bin ed_int (ed_var 1 rfl) (by walk_at "b2")) (by walk_at "ix")) (ed_bin (ed_var 1 rfl) ed_int (by walk_at "b2")) (by walk_at "b2")) (by walk_at "side")) (by exact rngD0 _) (U := Sl) (fun i u => [(3, .ow (.lst ((qShL c m i).map shE))), (4, u)]) (fun r => (r.getD 4 .no)) (fun _ => True) (rfl) (True.intro) ?_ ?_)
  · intro i0 t u0 hx0 hP0
    obtain rfl : i0 = t := by
      obtain ⟨hl, he⟩ := List.getElem?_eq_some_iff.mp hx0
      rw [List.getElem_range] at he; exact he
    have hi0 : i0 < qCnt3 c m := by have := (List.getElem?_eq_some_iff.mp hx0).1; rwa [List.length_range] at this
    refine ⟨_, _, (dg_name 4 nd), ?_⟩
    walk_at "env"
    refine ws_cons (ws_append 3 rfl (ed_tup (ad_cons (ed_call G_law_qlayer (hr.mono (by decide)) (by rfl) (ad_cons (ed_ix (ed_var 2 rfl) (ed_bin (ed_bin ed_int (ed_var 4 rfl) (by walk_at "b2")) ed_int (by walk_at "b2")) (by walk_at "ix")) ad_nil) (by walk_at "mk")) (ad_cons (ed_call G_law_box_of (hr.mono (by decide)) (by rfl) (ad_cons (ed_ix (ed_var 2 rfl) (ed_bin ed_int (ed_var 4 rfl) (by walk_at "b2")) (by walk_at "ix")) (ad_cons (ed_ix (ed_var 2 rfl) (ed_bin (ed_bin ed_int (ed_var 4 rfl) (by walk_at "b2")) ed_int (by walk_at "b2")) (by walk_at "ix")) ad_nil)) (by walk_at "mk")) ad_nil))) (by rw [List.length_map, qShL_len, sizeLine_eq]; omega) ?_ (fun h => ps_expr (pe_bm PySem.F.plainAttrs_list PySem.F.slot_list_append PySem.F.type_list_append mt_append (pv 3) h)))
    walk_at "env"
    refine ws_nil ?_
    refine ⟨?_, True.intro⟩
    rw [qShL_succ, List.map_append]
    rfl
  · intro u0 hP0
    walk_at "env"
    rw [List.length_range]
    refine ws_share 3 rfl ?_
    walk_at "env"
    refine ws_cons (ws_ret (ED.eq (ed_var 3 rfl) ?_) (Or.inl rfl))
    rfl
abbrev s_law_qlabels : Stmt := top 48
theorem sc_law_qlabels : FnScope ["cell", "most", "draws", "found", "k", "layer"] ["cell", "most"] (defScope s_law_qlabels) := ⟨rfl, rfl, rfl, by decide +kernel, rfl, by decide +kernel, by decide +kernel⟩
theorem ok_law_qlabels {f : Addr} {fd : FuncData} (F : Fun K "_law_qlabels" "_law_qlabels" s_law_qlabels f fd) (B : Bt mg) (KC : Kt K mg) (KL : Lt K mg) (WD : Zdt K w mg) (KT : Ktt K mg) (XF : Xt K mg) (G_law_draws : Fn P w K mg base "_law_draws" 1 R_law_draws) (G_law_name : Fn P w K mg base "_law_name" 1 R_law_name) :
    FnOk P w K mg base CX0 2 f fd ["cell", "most"] (spR K R_law_qlabels) := by
  refine fn_ok (k := 1) F sc_law_qlabels (fun ds d h => by cases h <;> rfl) fun ds d hR cdv A outer s H E hr => ?_
  have nd := sc_law_qlabels.nd
  have hu := hr.units
  rcases hR with ⟨c, m, hm⟩
  have hq := qCnt3_le (c := c) hm.1
  have hq0 := Int.emod_nonneg (dr c (3 * m + 1) (3 * m)) (show m + 1 ≠ 0 by omega)
  have hq1 := Int.emod_lt_of_pos (dr c (3 * m + 1) (3 * m)) (show (0 : Int) < m + 1 by omega)
  walk_at "en"
  refine ws_cons (ws_set 2 nd (ed_call G_law_draws (hr.mono (by decide)) (by rfl) (ad_cons (ed_var 0 rfl) (ad_cons (ed_bin (ed_bin ed_int (ed_var 1 rfl) (by walk_at "b2")) ed_int (by walk_at "b2")) ad_nil)) (by first | exact .mk _ _ (by decide) (by decide) | exact .mk _ _ (by omega) (by omega))) ?_)
  walk_at "env"
  refine ws_cons (ws_setO 3 nd (eo_lst ad_nil) ?_)
  walk_at "env"
  refine ws_cons (ws_forU (List.range (qCnt3 c m)) (fun (i : Nat) => D.int (i : Int)) rfl (id_range1 (by rfl) B.«range» (ed_bin (ed_ix (ed_var 2 rfl) (ed_bin ed_int (ed_var 1 rfl) (by walk_at "b2")) (by walk_at "ix")) (ed_bin (ed_var 1 rfl) ed_int (by walk_at "b2")) (by walk_at "b2")) (by walk_at "side")) (by exact rngD0 _) (U := Sl × Sl) (fun i u => [(3, .ow (.lst ((qLaL c m i).map Lab.e))), (4, u.1), (5, u.2)]) (fun r => (r.getD 4 .no, r.getD 5 .no)) (fun _ => True) (rfl) (True.intro) ?_ ?_)
  · intro i0 t u0 hx0 hP0
    obtain rfl : i0 = t := by
      obtain ⟨hl, he⟩ := List.getElem?_eq_some_iff.mp hx0
      rw [List.getElem_range] at he; exact he
    have hi0 : i0 < qCnt3 c m := by have := (List.getElem?_eq_some_iff.mp hx0).1; rwa [List.length_range] at this
    refine ⟨_, _, (dg_name 4 nd), ?_⟩
    walk_at "env"
    refine ws_cons (ws_set 5 nd (ED.eq (ed_ix (ED.eq (ed_lst (eo_lst (ad_cons ed_str (ad_cons ed_str (ad_cons ed_str (ad_cons ed_str ad_nil)))))) (show _ = D.lst (labN.map .str) from rfl)) (ed_bin (ed_ix (ed_var 2 rfl) (ed_bin (ed_bin ed_int (ed_var 4 rfl) (by walk_at "b2")) ed_int (by walk_at "b2")) (by walk_at "ix")) ed_int (by walk_at "b2")) (.l (at_getC (xs := labN) (f := D.str) (i := dr c (3 * m + 1) (3 * (i0 : Int) + 1) % 4) (a := "") (by show _ ∧ _ < (4 : Int); omega)))) (show _ = D.str (lab4 (dr c (3 * m + 1) (3 * (i0 : Int) + 1))) from rfl)) ?_)
    walk_at "env"
    refine ws_cons (ws_append 3 rfl (ed_tup (ad_cons (ed_call G_law_name (hr.mono (by decide)) (by rfl) (ad_cons (ed_ix (ed_var 2 rfl) (ed_bin ed_int (ed_var 4 rfl) (by walk_at "b2")) (by walk_at "ix")) ad_nil) (by exact .mk _ (dr_lo _ _ _).1)) (ad_cons (ed_var 5 rfl) (ad_cons (ed_bin (ed_bin (ed_ix (ed_var 2 rfl) (ed_bin (ed_bin ed_int (ed_var 4 rfl) (by walk_at "b2")) ed_int (by walk_at "b2")) (by walk_at "ix")) ed_int (by walk_at "b2")) ed_int (by walk_at "b2")) (ad_cons (ed_bin (ed_bin (ed_bin (ed_ix (ed_var 2 rfl) (ed_bin (ed_bin ed_int (ed_var 4 rfl) (by walk_at "b2")) ed_int (by walk_at "b2")) (by walk_at "ix")) ed_int (by walk_at "b2")) ed_int (by walk_at "b2")) ed_int (by walk_at "b2")) ad_nil))))) (by rw [List.length_map, qLaL_len, sizeLine_eq]; omega) ?_ (fun h => ps_expr (pe_bm PySem.F.plainAttrs_list PySem.F.slot_list_append PySem.F.type_list_append mt_append (pv 3) h)))
    walk_at "env"
    refine ws_nil ?_
    refine ⟨?_, True.intro⟩
    rw [qLaL_succ, List.map_append]
    rfl
  · intro u0 hP0
    walk_at "env"
    rw [List.length_range]
    refine ws_share 3 rfl ?_
    walk_at "env"
    refine ws_cons (ws_ret (ED.eq (ed_var 3 rfl) ?_) (Or.inl rfl))
    rfl
abbrev s_law_qcells : Stmt := top 49
theorem sc_law_qcells : FnScope ["script", "first", "many", "rows", "k", "draws", "shapes", "labels", "placements", "j", "at", "move", "steps", "columns", "lines"] ["script", "first", "many"] (defScope s_law_qcells) := ⟨rfl, rfl, rfl, by decide +kernel, rfl, by decide +kernel, by decide +kernel⟩
theorem ok_law_qcells {f : Addr} {fd : FuncData} (F : Fun K "_law_qcells" "_law_qcells" s_law_qcells f fd) (B : Bt mg) (KC : Kt K mg) (KL : Lt K mg) (WD : Zdt K w mg) (KT : Ktt K mg) (XF : Xt K mg) (G_law_cell : Fn P w K mg base "_law_cell" 1 R_law_cell) (G_law_draws : Fn P w K mg base "_law_draws" 1 R_law_draws) (G_law_name : Fn P w K mg base "_law_name" 1 R_law_name) (G_law_qlabels : Fn P w K mg base "_law_qlabels" 2 R_law_qlabels) (G_law_qshapes : Fn P w K mg base "_law_qshapes" 2 R_law_qshapes) :
    FnOk P w K mg base CX0 3 f fd ["script", "first", "many"] (spR K R_law_qcells) := by
  refine fn_ok (k := 2) F sc_law_qcells (fun ds d h => by cases h <;> rfl) fun ds d hR cdv A outer s H E hr => ?_
  have nd := sc_law_qcells.nd
  have hu := hr.units
  rcases hR with ⟨ns, f, m, hlen, hf, hm⟩
  walk_at "en"
  refine ws_cons (ws_setO 3 nd (eo_lst ad_nil) ?_)
  walk_at "env"
  refine ws_cons (ws_forU (List.range (m.toNat)) (fun (i : Nat) => D.int (i : Int)) rfl (id_range1 (by rfl) B.«range» (ed_var 2 rfl) (by walk_at "side")) (by exact rngD0 _) (U := Sl × Sl × Sl × Sl × Sl × Sl × Sl × Sl × Sl × Sl × Sl) (fun i u => [(3, .ow (.lst ((qRws ns f i).map rwC))), (4, u.1), (5, u.2.1), (6, u.2.2.1), (7, u.2.2.2.1), (8, u.2.2.2.2.1), (9, u.2.2.2.2.2.1), (10, u.2.2.2.2.2.2.1), (11, u.2.2.2.2.2.2.2.1), (12, u.2.2.2.2.2.2.2.2.1), (13, u.2.2.2.2.2.2.2.2.2.1), (14, u.2.2.2.2.2.2.2.2.2.2)]) (fun r => (r.getD 4 .no, r.getD 5 .no, r.getD 6 .no, r.getD 7 .no, r.getD 8 .no, r.getD 9 .no, r.getD 10 .no, r.getD 11 .no, r.getD 12 .no, r.getD 13 .no, r.getD 14 .no)) (fun _ => True) (rfl) (True.intro) ?_ ?_)
  · intro i0 t u0 hx0 hP0
    obtain rfl : i0 = t := by
      obtain ⟨hl, he⟩ := List.getElem?_eq_some_iff.mp hx0
      rw [List.getElem_range] at he; exact he
    have hi0 : i0 < m.toNat := by have := (List.getElem?_eq_some_iff.mp hx0).1; rwa [List.length_range] at this
    have hpn := qPn_le ns f i0
    refine ⟨_, _, (dg_name 4 nd), ?_⟩
    walk_at "env"
    refine ws_cons (ws_set 5 nd (ed_call G_law_draws (hr.mono (by decide)) (by rfl) (ad_cons (ed_call G_law_cell (hr.mono (by decide)) (by rfl) (ad_cons (ed_var 0 rfl) (ad_cons (ed_bin (ed_var 1 rfl) (ed_bin ed_int (ed_var 4 rfl) (by walk_at "b2")) (by walk_at "b2")) ad_nil)) (by exact .mk _ _ (by omega))) (ad_cons ed_int ad_nil)) (by first | exact .mk _ _ (by decide) (by decide) | exact .mk _ _ (by omega) (by omega))) ?_)
    walk_at "env"
    refine ws_cons (ws_set 6 nd (ed_call G_law_qshapes (hr.mono (by decide)) (by rfl) (ad_cons (ed_call G_law_cell (hr.mono (by decide)) (by rfl) (ad_cons (ed_var 0 rfl) (ad_cons (ed_bin (ed_bin (ed_var 1 rfl) (ed_bin ed_int (ed_var 4 rfl) (by walk_at "b2")) (by walk_at "b2")) ed_int (by walk_at "b2")) ad_nil)) (by exact .mk _ _ (by omega))) (ad_cons ed_int ad_nil)) (by exact .mk _ _ (by decide))) ?_)
    walk_at "env"
    refine ws_cons (ws_set 7 nd (ed_call G_law_qlabels (hr.mono (by decide)) (by rfl) (ad_cons (ed_call G_law_cell (hr.mono (by decide)) (by rfl) (ad_cons (ed_var 0 rfl) (ad_cons (ed_bin (ed_bin (ed_var 1 rfl) (ed_bin ed_int (ed_var 4 rfl) (by walk_at "b2")) (by walk_at "b2")) ed_int (by walk_at "b2")) ad_nil)) (by exact .mk _ _ (by omega))) (ad_cons ed_int ad_nil)) (by exact .mk _ _ (by decide))) ?_)
    walk_at "env"
    refine ws_cons (ws_setO 8 nd (eo_lst ad_nil) ?_)
    walk_at "env"
    refine ws_cons (ws_forU (List.range (qPn ns f i0)) (fun (i : Nat) => D.int (i : Int)) rfl (id_range1 (by rfl) B.«range» (ed_callB (id := "min") (by rfl) B.«min» bb_min (ad_cons (ed_var 4 rfl) (ad_cons (ed_bin (ed_ix (ed_var 5 rfl) ed_int (by walk_at "ix")) ed_int (by walk_at "b2")) ad_nil)) (bc_min2 rfl)) (by walk_at "side")) (by exact rngD0 _) (U := Sl × Sl × Sl × Sl × Sl × Sl) (fun i u => [(8, .ow (.lst ((qPls ns f i0 i).map Pla.e))), (9, u.1), (10, u.2.1), (11, u.2.2.1), (12, u.2.2.2.1), (13, u.2.2.2.2.1), (14, u.2.2.2.2.2)]) (fun r => (r.getD 9 .no, r.getD 10 .no, r.getD 11 .no, r.getD 12 .no, r.getD 13 .no, r.getD 14 .no)) (fun _ => True) (rfl) (True.intro) ?_ ?_)
    · intro i1 t u1 hx1 hP1
      obtain rfl : i1 = t := by
        obtain ⟨hl, he⟩ := List.getElem?_eq_some_iff.mp hx1
        rw [List.getElem_range] at he; exact he
      have hi1 : i1 < qPn ns f i0 := by have := (List.getElem?_eq_some_iff.mp hx1).1; rwa [List.length_range] at this
      refine ⟨_, _, (dg_name 9 nd), ?_⟩
      walk_at "env"
      refine ws_cons (ws_set 10 nd (ed_bin (ed_ix (ed_var 5 rfl) (ed_bin (ed_bin ed_int (ed_var 9 rfl) (by walk_at "b2")) ed_int (by walk_at "b2")) (by walk_at "ix")) (ed_var 4 rfl) (by walk_at "b2")) ?_)
      walk_at "env"
      refine ws_cons (ws_set 11 nd (ed_tup (ad_cons (ed_bin (ed_ix (ed_var 5 rfl) (ed_bin (ed_bin ed_int (ed_var 9 rfl) (by walk_at "b2")) ed_int (by walk_at "b2")) (by walk_at "ix")) ed_int (by walk_at "b2")) (ad_cons (ed_bin (ed_bin (ed_ix (ed_var 5 rfl) (ed_bin (ed_bin ed_int (ed_var 9 rfl) (by walk_at "b2")) ed_int (by walk_at "b2")) (by walk_at "ix")) ed_int (by walk_at "b2")) ed_int (by walk_at "b2")) (ad_cons (ed_bin (ed_bin (ed_bin (ed_ix (ed_var 5 rfl) (ed_bin (ed_bin ed_int (ed_var 9 rfl) (by walk_at "b2")) ed_int (by walk_at "b2")) (by walk_at "ix")) ed_int (by walk_at "b2")) ed_int (by walk_at "b2")) ed_int (by walk_at "b2")) ad_nil)))) ?_)
      walk_at "env"
      refine ws_cons (ws_set 12 nd (ed_ix (ed_var 5 rfl) (ed_bin (ed_bin ed_int (ed_var 9 rfl) (by walk_at "b2")) ed_int (by walk_at "b2")) (by walk_at "ix")) ?_)
      walk_at "env"
      refine ws_cons (ws_set 13 nd (ED.eq (ed_ix (ED.eq (ed_lst (eo_lst (ad_cons ed_int (ad_cons ed_int (ad_cons ed_int (ad_cons ed_int (ad_cons ed_int ad_nil))))))) (show _ = D.lst (([1, 1, 1, 2, 3] : List Int).map .int) from rfl)) (ed_bin (ed_ix (ed_var 5 rfl) (ed_bin (ed_bin ed_int (ed_var 9 rfl) (by walk_at "b2")) ed_int (by walk_at "b2")) (by walk_at "ix")) ed_int (by walk_at "b2")) (.l (at_getC (xs := ([1, 1, 1, 2, 3] : List Int)) (f := D.int) (i := qDr ns f i0 (6 * (i1 : Int) + 4) % 5) (a := 0) (by show _ ∧ _ < (5 : Int); omega)))) (show _ = D.int (col5 (qDr ns f i0 (6 * (i1 : Int) + 4))) from rfl)) ?_)
      walk_at "env"
      refine ws_cons (ws_set 14 nd (ED.eq (ed_ix (ED.eq (ed_lst (eo_lst (ad_cons ed_int (ad_cons ed_int (ad_cons ed_int ad_nil))))) (show _ = D.lst (([1, 1, 2] : List Int).map .int) from rfl)) (ed_bin (ed_bin (ed_ix (ed_var 5 rfl) (ed_bin (ed_bin ed_int (ed_var 9 rfl) (by walk_at "b2")) ed_int (by walk_at "b2")) (by walk_at "ix")) ed_int (by walk_at "b2")) ed_int (by walk_at "b2")) (.l (at_getC (xs := ([1, 1, 2] : List Int)) (f := D.int) (i := qDr ns f i0 (6 * (i1 : Int) + 4) / 5 % 3) (a := 0) (by show _ ∧ _ < (3 : Int); omega)))) (show _ = D.int (lin3 (qDr ns f i0 (6 * (i1 : Int) + 4))) from rfl)) ?_)
      walk_at "env"
      refine ws_cons (ws_append 8 rfl (ed_tup (ad_cons (ed_ix (ed_ixO 3 rfl (ed_var 10 rfl) (qRws_at (i := qDr ns f i0 (6 * (i1 : Int) + 1) % (i0 : Int)) ⟨Int.emod_nonneg _ (by omega), Int.emod_lt_of_pos _ (by omega)⟩)) ed_int IX.t0) (ad_cons (ed_var 11 rfl) (ad_cons (ed_var 13 rfl) (ad_cons (ed_var 14 rfl) (ad_cons (ed_bin (ed_bin (ed_var 12 rfl) ed_int (by walk_at "b2")) ed_int (by walk_at "b2")) (ad_cons (ed_bin (ed_bin (ed_bin (ed_var 12 rfl) ed_int (by walk_at "b2")) ed_int (by walk_at "b2")) ed_int (by walk_at "b2")) ad_nil))))))) (by first | (rw [List.length_map, qPls_len, sizeLine_eq]; omega) | (rw [List.length_map, qRws_len, sizeLine_eq]; omega)) ?_ (fun h => ps_expr (pe_bm PySem.F.plainAttrs_list PySem.F.slot_list_append PySem.F.type_list_append mt_append (pv 8) h)))
      walk_at "env"
      refine ws_nil ?_
      refine ⟨?_, True.intro⟩
      rw [qPls_succ, List.map_append]
      rfl
    · intro u1 hP1
      walk_at "env"
      rw [List.length_range]
      refine ws_share 8 rfl ?_
      walk_at "env"
      refine ws_cons (ws_append 3 rfl (ed_tup (ad_cons (ed_bin (ed_call G_law_name (hr.mono (by decide)) (by rfl) (ad_cons (ed_ix (ed_var 5 rfl) ed_int (by walk_at "ix")) ad_nil) (by exact .mk _ (dr_lo _ _ _).1)) (ed_callT (T := "str") (by rfl) B.«str» bb_str (ad_cons (ed_var 4 rfl) ad_nil) (bc_strI (log_small hi0 (by omega)))) (b2_addS (nmk_len _ hi0 (by omega)))) (ad_cons (ed_var 6 rfl) (ad_cons (ed_var 7 rfl) (ad_cons (ed_var 8 rfl) ad_nil))))) (by first | (rw [List.length_map, qPls_len, sizeLine_eq]; omega) | (rw [List.length_map, qRws_len, sizeLine_eq]; omega)) ?_ (fun h => ps_expr (pe_bm PySem.F.plainAttrs_list PySem.F.slot_list_append PySem.F.type_list_append mt_append (pv 3) h)))
      walk_at "env"
      refine ws_nil ?_
      refine ⟨?_, True.intro⟩
      rw [qRws_succ, List.map_append]
      rfl
  · intro u0 hP0
    walk_at "env"
    rw [List.length_range]
    refine ws_share 3 rfl ?_
    walk_at "env"
    refine ws_cons (ws_ret (ED.eq (ed_var 3 rfl) ?_) (Or.inl rfl))
    rfl
abbrev s_law_qtext : Stmt := top 50
theorem sc_law_qtext : FnScope ["rows", "lines", "name", "shapes", "labels", "placements", "layer", "box", "label", "x", "y", "placed", "move", "columns", "turns", "step_x", "step_y", "numbers", "side", "number"] ["rows"] (defScope s_law_qtext) := ⟨rfl, rfl, rfl, by decide +kernel, rfl, by decide +kernel, by decide +kernel⟩
theorem ok_law_qtext {f : Addr} {fd : FuncData} (F : Fun K "_law_qtext" "_law_qtext" s_law_qtext f fd) (B : Bt mg) (KC : Kt K mg) (KL : Lt K mg) (WD : Zdt K w mg) (KT : Ktt K mg) (XF : Xt K mg)  :
    FnOk P w K mg base CX0 1 f fd ["rows"] (spR K R_law_qtext) := by
  refine fn_ok (k := 0) F sc_law_qtext (fun ds d h => by cases h <;> rfl) fun ds d hR cdv A outer s H E hr => ?_
  have nd := sc_law_qtext.nd
  have hu := hr.units
  rcases hR with ⟨rs, sm, hl⟩
  have l0 : ("shape " : Str).length = 6 := by decide +kernel
  have l1 : ("label " : Str).length = 6 := by decide +kernel
  have l2 : ("place " : Str).length = 6 := by decide +kernel
  have l3 : (" " : Str).length = 1 := by decide +kernel
  have l4 : ("cell " : Str).length = 5 := by decide +kernel
  have l8 := lens
  walk_at "en"
  refine ws_cons (ws_setO 1 nd (eo_lst ad_nil) ?_)
  walk_at "env"
  refine ws_cons (ws_forU (rs) (rwC) rfl (id_list (ed_var 0 rfl)) (by rfl) (U := Sl × Sl × Sl × Sl × Sl × Sl × Sl × Sl × Sl × Sl × Sl × Sl × Sl × Sl × Sl × Sl) (fun i u => [(1, .ow (.lst ((lnR (rs.take i)).map .str))), (2, u.1), (3, u.2.1), (4, u.2.2.1), (5, u.2.2.2.1), (6, u.2.2.2.2.1), (7, u.2.2.2.2.2.1), (8, u.2.2.2.2.2.2.1), (9, u.2.2.2.2.2.2.2.1), (10, u.2.2.2.2.2.2.2.2.1), (11, u.2.2.2.2.2.2.2.2.2.1), (12, u.2.2.2.2.2.2.2.2.2.2.1), (13, u.2.2.2.2.2.2.2.2.2.2.2.1), (14, u.2.2.2.2.2.2.2.2.2.2.2.2.1), (15, u.2.2.2.2.2.2.2.2.2.2.2.2.2.1), (16, u.2.2.2.2.2.2.2.2.2.2.2.2.2.2.1), (17, u.2.2.2.2.2.2.2.2.2.2.2.2.2.2.2)]) (fun r => (r.getD 2 .no, r.getD 3 .no, r.getD 4 .no, r.getD 5 .no, r.getD 6 .no, r.getD 7 .no, r.getD 8 .no, r.getD 9 .no, r.getD 10 .no, r.getD 11 .no, r.getD 12 .no, r.getD 13 .no, r.getD 14 .no, r.getD 15 .no, r.getD 16 .no, r.getD 17 .no)) (fun _ => True) (rfl) (True.intro) ?_ ?_)
  · intro i0 r u0 hx0 hP0
    have hm := sm r (List.mem_of_getElem? hx0)
    have hf := hm.few
    have hn := hm.n
    have hL := (lnR_len (rs := rs.take i0) (fun r h => sm r (List.mem_of_mem_take h))).1
    rw [List.length_take] at hL
    have hi0 : i0 < rs.length := (List.getElem?_eq_some_iff.mp hx0).1
    refine ⟨_, _, (dg_tup rfl (dgs_cons (dg_name 2 nd) (dgs_cons (dg_name 3 nd) (dgs_cons (dg_name 4 nd) (dgs_cons (dg_name 5 nd) dgs_nil))))), ?_⟩
    walk_at "env"
    refine ws_cons (ws_append 1 rfl (ed_bin ed_str (ed_var 2 rfl) (b2_addS (by rw [sizeLine_eq]; omega))) (by simp only [List.length_append, List.length_map, List.length_cons, List.length_nil, List.length_take] at *; rw [sizeLine_eq]; omega) ?_ (fun h => ps_expr (pe_bm PySem.F.plainAttrs_list PySem.F.slot_list_append PySem.F.type_list_append mt_append (pv 1) h)))
    walk_at "env"
    refine ws_cons (ws_forU (r.S) (shE) rfl (id_list (ed_var 3 rfl)) (by rfl) (U := Sl × Sl) (fun i u => [(1, .ow (.lst ((lnR (rs.take i0) ++ [("cell " : Str) ++ r.n] ++ (r.S.take i).map lnS).map .str))), (6, u.1), (7, u.2)]) (fun r => (r.getD 6 .no, r.getD 7 .no)) (fun _ => True) (by simp only [upds, List.foldl_cons, List.foldl_nil, List.set_cons_zero, List.set_cons_succ, List.take_zero, List.map_nil, List.append_nil, List.map_append, List.map_cons]; rfl) (True.intro) ?_ ?_)
    · intro i1 v u1 hx1 hP1
      obtain ⟨h0, h1, h2, h3, h4⟩ := hm.s v (List.mem_of_getElem? hx1)
      have k1 := h1.len
      have k2 := h2.len
      have k3 := h3.len
      have k4 := h4.len
      refine ⟨_, _, (dg_tup rfl (dgs_cons (dg_name 6 nd) (dgs_cons (dg_name 7 nd) dgs_nil))), ?_⟩
      walk_at "env"
      refine ws_cons (ws_append 1 rfl (ED.eq (ed_join (zs := ["shape", v.1, stI v.2.a, stI v.2.b, stI v.2.c, stI v.2.d]) ed_str (.lst _) (ED.eq (ed_lst (eo_cat (ed_lst (eo_lst (ad_cons ed_str (ad_cons (ed_var 6 rfl) ad_nil)))) (ed_lst (eo_map2 [("side", 18)] ([v.2.a, v.2.b, v.2.c, v.2.d]) (D.int) (stI) (D.str) rfl nd (blkOk_by (N := ["rows", "lines", "name", "shapes", "labels", "placements", "layer", "box", "label", "x", "y", "placed", "move", "columns", "turns", "step_x", "step_y", "numbers", "side", "number"]) (sc := defScope s_law_qtext) (by decide +kernel)) (id_tup (ed_var 7 rfl)) (rfl) (fun x hxm => by have hsx : Sm x := (by simp only [List.mem_cons, List.not_mem_nil, or_false] at hxm; rcases hxm with rfl | rfl | rfl | rfl <;> assumption); exact ⟨_, by rfl, fun _ _ _ _ _ => ⟨(dg_name 18 nd), tds_nil, (ed_callT (T := "str") (by rfl) B.«str» bb_str (ad_cons (ed_var 18 rfl) ad_nil) (bc_strI hsx.log))⟩⟩) (by show 4 ≤ _; rw [sizeLine_eq]; decide))) (by simp only [List.length_map, List.length_cons, List.length_nil]; rw [sizeLine_eq]; decide))) (show _ = D.lst ((["shape", v.1, stI v.2.a, stI v.2.b, stI v.2.c, stI v.2.d] : List Str).map .str) from rfl)) (by simp only [sumL_cons, sumL_nil, List.length_cons, List.length_nil]; omega)) (show _ = D.str (lnS v) from rfl)) (by simp only [List.length_append, List.length_map, List.length_cons, List.length_nil, List.length_take] at *; rw [sizeLine_eq]; omega) ?_ (fun h => ps_expr (pe_bm PySem.F.plainAttrs_list PySem.F.slot_list_append PySem.F.type_list_append mt_append (pv 1) h)))
      walk_at "env"
      refine ws_nil ?_
      refine ⟨?_, True.intro⟩
      rw [List.take_add_one, hx1]
      simp only [Option.toList, List.map_append, List.map_cons, List.map_nil, List.append_assoc]
      rfl
    · intro u1 hP1
      walk_at "env"
      rw [List.take_length]
      refine ws_cons (ws_forU (r.L) (Lab.e) rfl (id_list (ed_var 4 rfl)) (by rfl) (U := Sl × Sl × Sl × Sl) (fun i u => [(1, .ow (.lst ((lnR (rs.take i0) ++ [("cell " : Str) ++ r.n] ++ r.S.map lnS ++ (r.L.take i).map lnL).map .str))), (6, u.1), (8, u.2.1), (9, u.2.2.1), (10, u.2.2.2)]) (fun r => (r.getD 6 .no, r.getD 8 .no, r.getD 9 .no, r.getD 10 .no)) (fun _ => True) (by simp only [upds, List.foldl_cons, List.foldl_nil, List.set_cons_zero, List.set_cons_succ, List.take_zero, List.map_nil, List.append_nil, List.map_append, List.map_cons]; rfl) (True.intro) ?_ ?_)
      · intro i2 v u2 hx2 hP2
        obtain ⟨h0, h1, h2, h3⟩ := hm.l v (List.mem_of_getElem? hx2)
        have k2 := h2.len
        have k3 := h3.len
        refine ⟨_, _, (dg_tup rfl (dgs_cons (dg_name 8 nd) (dgs_cons (dg_name 6 nd) (dgs_cons (dg_name 9 nd) (dgs_cons (dg_name 10 nd) dgs_nil))))), ?_⟩
        walk_at "env"
        refine ws_cons (ws_append 1 rfl (ED.eq (ed_join (zs := ["label", v.n, v.l, stI v.x, stI v.y]) ed_str (.lst _) (ED.eq (ed_lst (eo_lst (ad_cons ed_str (ad_cons (ed_var 8 rfl) (ad_cons (ed_var 6 rfl) (ad_cons (ed_callT (T := "str") (by rfl) B.«str» bb_str (ad_cons (ed_var 9 rfl) ad_nil) (bc_strI (Sm.log (by assumption)))) (ad_cons (ed_callT (T := "str") (by rfl) B.«str» bb_str (ad_cons (ed_var 10 rfl) ad_nil) (bc_strI (Sm.log (by assumption)))) ad_nil))))))) (show _ = D.lst ((["label", v.n, v.l, stI v.x, stI v.y] : List Str).map .str) from rfl)) (by simp only [sumL_cons, sumL_nil, List.length_cons, List.length_nil]; omega)) (show _ = D.str (lnL v) from rfl)) (by simp only [List.length_append, List.length_map, List.length_cons, List.length_nil, List.length_take] at *; rw [sizeLine_eq]; omega) ?_ (fun h => ps_expr (pe_bm PySem.F.plainAttrs_list PySem.F.slot_list_append PySem.F.type_list_append mt_append (pv 1) h)))
        walk_at "env"
        refine ws_nil ?_
        refine ⟨?_, True.intro⟩
        rw [List.take_add_one, hx2]
        simp only [Option.toList, List.map_append, List.map_cons, List.map_nil, List.append_assoc]
        rfl
      · intro u2 hP2
        walk_at "env"
        rw [List.take_length]
        refine ws_cons (ws_forU (r.P) (Pla.e) rfl (id_list (ed_var 5 rfl)) (by rfl) (U := Sl × Sl × Sl × Sl × Sl × Sl × Sl) (fun i u => [(1, .ow (.lst ((lnR (rs.take i0) ++ [("cell " : Str) ++ r.n] ++ r.S.map lnS ++ r.L.map lnL ++ (r.P.take i).map lnP).map .str))), (11, u.1), (12, u.2.1), (13, u.2.2.1), (14, u.2.2.2.1), (15, u.2.2.2.2.1), (16, u.2.2.2.2.2.1), (17, u.2.2.2.2.2.2)]) (fun r => (r.getD 11 .no, r.getD 12 .no, r.getD 13 .no, r.getD 14 .no, r.getD 15 .no, r.getD 16 .no, r.getD 17 .no)) (fun _ => True) (by simp only [upds, List.foldl_cons, List.foldl_nil, List.set_cons_zero, List.set_cons_succ, List.take_zero, List.map_nil, List.append_nil, List.map_append, List.map_cons]; rfl) (True.intro) ?_ ?_)
        · intro i3 v u3 hx3 hP3
          obtain ⟨h0, ⟨h1, h2, h3⟩, ⟨h4, h5⟩, h6, h7⟩ := hm.p v (List.mem_of_getElem? hx3)
          have k1 := h1.len
          have k2 := h2.len
          have k3 := h3.len
          have k4 := h4.len
          have k5 := h5.len
          have k6 := h6.len
          have k7 := h7.len
          refine ⟨_, _, (dg_tup rfl (dgs_cons (dg_name 11 nd) (dgs_cons (dg_name 12 nd) (dgs_cons (dg_name 13 nd) (dgs_cons (dg_name 14 nd) (dgs_cons (dg_name 15 nd) (dgs_cons (dg_name 16 nd) dgs_nil))))))), ?_⟩
          walk_at "env"
          refine ws_cons (ws_setO 17 nd (eo_lst (ad_cons (ed_ix (ed_var 12 rfl) ed_int (by walk_at "ix")) (ad_cons (ed_ix (ed_var 12 rfl) ed_int (by walk_at "ix")) (ad_cons (ed_ix (ed_var 12 rfl) ed_int (by walk_at "ix")) (ad_cons (ed_var 13 rfl) (ad_cons (ed_var 14 rfl) (ad_cons (ed_var 15 rfl) (ad_cons (ed_var 16 rfl) ad_nil)))))))) ?_)
          refine ws_share 17 rfl ?_
          walk_at "env"
          refine ws_cons (ws_append 1 rfl (ED.eq (ed_join (zs := ["place", v.n, stI v.t, stI v.dx, stI v.dy, stI v.c, stI v.r, stI v.sx, stI v.sy]) ed_str (.lst _) (ED.eq (ed_lst (eo_cat (ed_lst (eo_lst (ad_cons ed_str (ad_cons (ed_var 11 rfl) ad_nil)))) (ed_lst (eo_map2 [("number", 19)] ([v.t, v.dx, v.dy, v.c, v.r, v.sx, v.sy]) (D.int) (stI) (D.str) rfl nd (blkOk_by (N := ["rows", "lines", "name", "shapes", "labels", "placements", "layer", "box", "label", "x", "y", "placed", "move", "columns", "turns", "step_x", "step_y", "numbers", "side", "number"]) (sc := defScope s_law_qtext) (by decide +kernel)) (id_list (ed_var 17 rfl)) (rfl) (fun x hxm => by have hsx : Sm x := (by simp only [List.mem_cons, List.not_mem_nil, or_false] at hxm; rcases hxm with rfl | rfl | rfl | rfl | rfl | rfl | rfl <;> assumption); exact ⟨_, by rfl, fun _ _ _ _ _ => ⟨(dg_name 19 nd), tds_nil, (ed_callT (T := "str") (by rfl) B.«str» bb_str (ad_cons (ed_var 19 rfl) ad_nil) (bc_strI hsx.log))⟩⟩) (by show 7 ≤ _; rw [sizeLine_eq]; decide))) (by simp only [List.length_map, List.length_cons, List.length_nil]; rw [sizeLine_eq]; decide))) (show _ = D.lst ((["place", v.n, stI v.t, stI v.dx, stI v.dy, stI v.c, stI v.r, stI v.sx, stI v.sy] : List Str).map .str) from rfl)) (by simp only [sumL_cons, sumL_nil, List.length_cons, List.length_nil]; omega)) (show _ = D.str (lnP v) from rfl)) (by simp only [List.length_append, List.length_map, List.length_cons, List.length_nil, List.length_take] at *; rw [sizeLine_eq]; omega) ?_ (fun h => ps_expr (pe_bm PySem.F.plainAttrs_list PySem.F.slot_list_append PySem.F.type_list_append mt_append (pv 1) h)))
          walk_at "env"
          refine ws_nil ?_
          refine ⟨?_, True.intro⟩
          rw [List.take_add_one, hx3]
          simp only [Option.toList, List.map_append, List.map_cons, List.map_nil, List.append_assoc]
          rfl
        · intro u3 hP3
          walk_at "env"
          rw [List.take_length]
          refine ws_nil ?_
          refine ⟨?_, True.intro⟩
          rw [List.take_add_one, hx0]
          simp only [Option.toList]
          rw [lnR_snoc]
          simp only [lnC, List.append_assoc]
          rfl
  · intro u0 hP0
    walk_at "env"
    rw [List.take_length]
    refine ws_share 1 rfl ?_
    walk_at "env"
    refine ws_cons (ws_ret (ED.eq (ed_var 1 rfl) ?_) (Or.inl rfl))
    rfl
abbrev s_law_qbad_integer : Stmt := top 51
theorem sc_law_qbad_integer : FnScope ["draw"] ["draw"] (defScope s_law_qbad_integer) := ⟨rfl, rfl, rfl, by decide +kernel, rfl, by decide +kernel, by decide +kernel⟩
theorem ok_law_qbad_integer {f : Addr} {fd : FuncData} (F : Fun K "_law_qbad_integer" "_law_qbad_integer" s_law_qbad_integer f fd) (B : Bt mg) (KC : Kt K mg) (KL : Lt K mg) (WD : Zdt K w mg) (KT : Ktt K mg) (XF : Xt K mg)  :
    FnOk P w K mg base CX0 1 f fd ["draw"] (spR K R_law_qbad_integer) := by
  refine fn_ok (k := 0) F sc_law_qbad_integer (fun ds d h => by cases h <;> rfl) fun ds d hR cdv A outer s H E hr => ?_
  have nd := sc_law_qbad_integer.nd
  have hu := hr.units
  rcases hR with ⟨d, hd⟩
  walk_at "en"
  refine ws_cons (ws_ret (ED.eq (ED.eq (ed_ix (ED.eq (ed_lst (eo_lst (ad_cons ed_str (ad_cons ed_str (ad_cons ed_str (ad_cons ed_str (ad_cons ed_str (ad_cons ed_str (ad_cons (ed_bin ed_str ed_int (b2_mulS (n := 31) (by decide) (by decide) (by decide +kernel) (by decide +kernel))) (ad_cons ed_str (ad_cons ed_str (ad_cons ed_str (ad_cons (ed_bin ed_str (ed_bin ed_str ed_int (b2_mulS (n := 31) (by decide) (by decide) (by decide +kernel) (by decide +kernel))) (b2_addS (by rw [sRep_len, sizeLine_eq]; decide +kernel))) (ad_cons ed_str ad_nil)))))))))))))) (show _ = D.lst (badIL.map .str) from rfl)) (ed_bin (ed_var 0 rfl) ed_int (by walk_at "b2")) (.l (at_getI (xs := badIL) (f := D.str) (i := d % 12) (a := "") (by show _ ∧ _ < (12 : Int); omega)))) (show _ = D.str (badIw d) from rfl)) ?_) (Or.inl rfl))
  rfl
abbrev s_law_qbad_name : Stmt := top 52
theorem sc_law_qbad_name : FnScope ["draw"] ["draw"] (defScope s_law_qbad_name) := ⟨rfl, rfl, rfl, by decide +kernel, rfl, by decide +kernel, by decide +kernel⟩
theorem ok_law_qbad_name {f : Addr} {fd : FuncData} (F : Fun K "_law_qbad_name" "_law_qbad_name" s_law_qbad_name f fd) (B : Bt mg) (KC : Kt K mg) (KL : Lt K mg) (WD : Zdt K w mg) (KT : Ktt K mg) (XF : Xt K mg)  :
    FnOk P w K mg base CX0 1 f fd ["draw"] (spR K R_law_qbad_name) := by
  refine fn_ok (k := 0) F sc_law_qbad_name (fun ds d h => by cases h <;> rfl) fun ds d hR cdv A outer s H E hr => ?_
  have nd := sc_law_qbad_name.nd
  have hu := hr.units
  rcases hR with ⟨d, hd⟩
  walk_at "en"
  refine ws_cons (ws_ret (ED.eq (ED.eq (ed_ix (ED.eq (ed_lst (eo_lst (ad_cons ed_str (ad_cons ed_str (ad_cons ed_str (ad_cons ed_str (ad_cons ed_str (ad_cons ed_str (ad_cons ed_str (ad_cons ed_str ad_nil)))))))))) (show _ = D.lst (badNm.map .str) from rfl)) (ed_bin (ed_var 0 rfl) ed_int (by walk_at "b2")) (.l (at_getI (xs := badNm) (f := D.str) (i := d % 8) (a := "") (by show _ ∧ _ < (8 : Int); omega)))) (show _ = D.str (badAt d) from rfl)) ?_) (Or.inl rfl))
  rfl
abbrev s_law_line : Stmt := top 53
theorem sc_law_line : FnScope ["text", "e"] ["text"] (defScope s_law_line) := ⟨rfl, rfl, rfl, by decide +kernel, rfl, by decide +kernel, by decide +kernel⟩
theorem ok_law_line {f : Addr} {fd : FuncData} (F : Fun K "_law_line" "_law_line" s_law_line f fd) (B : Bt mg) (KC : Kt K mg) (KL : Lt K mg) (WD : Zdt K w mg) (KT : Ktt K mg) (XF : Xt K mg) (G_parse_library : Fn P w K mg base "parse_library" 9 R_parse_library) (GX_parse_library : FnXG P w K mg base "parse_library" 9 RX_parse_library) :
    FnOk P w K mg base CX0 10 f fd ["text"] (spR K R_law_line) := by
  refine fn_ok (k := 9) F sc_law_line (fun ds d h => by cases h <;> rfl) fun ds d hR cdv A outer s H E hr => ?_
  have nd := sc_law_line.nd
  have hu := hr.units
  rcases hR with ⟨z, k, hL⟩
  walk_at "en"
  rcases hL with ⟨rs, t⟩ | ⟨W, _, hP⟩
  · skip
    refine ws_cons (ws_try0 ?_)
    refine ws_cons (ws_exprD (ed_call G_parse_library (hr.mono (by decide)) (by rfl) (ad_cons (ed_var 0 rfl) ad_nil) (by exact .mk rs t)) ?_)
    refine ws_nil ?_
    refine ws_cons (ws_ret (ED.eq ed_int ?_) (Or.inl rfl))
    rfl
  · skip
    refine ws_cons (ws_tryFS (ns := ["line"]) (ds := [.int k]) 1 nd XF.«m1» (by rfl) (fun pn xe po => ?_) (fun ea eC ex eo pn ehC ehz ehf => ?_))
    · skip
      exact xg_head (xg_expr (eg_call GX_parse_library (hr.mono (by decide)) (by rfl) (ad_cons (ed_var 0 rfl) ad_nil) (by exact .mk W _ hP)))
    · skip
      walk_at "env"
      refine ws_cons (ws_if (td_tw (tw_and (td_truth (ed_isEF XF.«InvalidText» XF.«i1» ehC ehz ehf (by rfl) B.«isinstance» (by rfl) (ed_var 1 rfl)) rfl) (fun _ => tw_and1 (td_truth (ed_callB (id := "isinstance") (by rfl) B.«isinstance» bb_isinstance (ad_cons (ed_xfld 0 XF.«f1» ehC ehz ehf (ed_var 1 rfl)) (ad_cons (ed_ty (n := "int") (by rfl) B.«int» bb_int) ad_nil)) (bc_isi (c := "int") (by rfl) (by rfl))) rfl)))) (fun hc1 => ?_) (fun hc1 => ?_))
      · skip
        clear hc1
        refine ws_cons (ws_ret (ED.eq (ed_xfld 0 XF.«f1» ehC ehz ehf (ed_var 1 rfl)) ?_) (Or.inl rfl))
        rfl
      · skip
        exfalso; simp at hc1
abbrev s_law_wrong_line : Stmt := top 54
theorem sc_law_wrong_line : FnScope ["draw", "name", "more", "integer", "wrong", "lines"] ["draw", "name", "more"] (defScope s_law_wrong_line) := ⟨rfl, rfl, rfl, by decide +kernel, rfl, by decide +kernel, by decide +kernel⟩
theorem ok_law_wrong_line {f : Addr} {fd : FuncData} (F : Fun K "_law_wrong_line" "_law_wrong_line" s_law_wrong_line f fd) (B : Bt mg) (KC : Kt K mg) (KL : Lt K mg) (WD : Zdt K w mg) (KT : Ktt K mg) (XF : Xt K mg) (G_law_qbad_integer : Fn P w K mg base "_law_qbad_integer" 1 R_law_qbad_integer) (G_law_qbad_name : Fn P w K mg base "_law_qbad_name" 1 R_law_qbad_name) :
    FnOk P w K mg base CX0 2 f fd ["draw", "name", "more"] (spR K R_law_wrong_line) := by
  refine fn_ok (k := 1) F sc_law_wrong_line (fun ds d h => by cases h <;> rfl) fun ds d hR cdv A outer s H E hr => ?_
  have nd := sc_law_wrong_line.nd
  have hu := hr.units
  rcases hR with ⟨d, m, n, hd, hm, hN⟩
  have hI : (badIw m).length ≤ 41 := (badI_no m).2.n
  have hB : (badAt m).length ≤ 41 := (badAt_w m).n
  walk_at "en"
  refine ws_cons (ws_set 3 nd (ed_call G_law_qbad_integer (hr.mono (by decide)) (by rfl) (ad_cons (ed_var 2 rfl) ad_nil) (by exact .mk _ hm)) ?_)
  walk_at "env"
  refine ws_cons (ws_set 4 nd (ed_call G_law_qbad_name (hr.mono (by decide)) (by rfl) (ad_cons (ed_var 2 rfl) ad_nil) (by exact .mk _ hm)) ?_)
  walk_at "env"
  refine ws_cons (ws_setO 5 nd (eo_lst (ad_cons ed_str (ad_cons ed_str (ad_cons ed_str (ad_cons ed_str (ad_cons (ed_bin ed_str (ed_var 4 rfl) (b2_addS (add_ok (show ("cell " : Str).length ≤ 100 by decide +kernel) hB))) (ad_cons (ed_bin ed_str (ed_var 1 rfl) (b2_addS (add_ok (show ("cell " : Str).length ≤ 100 by decide +kernel) hN))) (ad_cons ed_str (ad_cons ed_str (ad_cons ed_str ad_nil)))))))))) ?_)
  refine ws_share 5 rfl ?_
  walk_at "env"
  refine ws_cons (ws_setO 5 nd (EO.eq (c' := .lst (((wlS m n).take 14).map .str)) (eo_cat (ed_var 5 rfl) (ed_lst (eo_lst (ad_cons ed_str (ad_cons ed_str (ad_cons ed_str (ad_cons ed_str (ad_cons ed_str ad_nil))))))) (by simp only [List.length_map, List.length_take, List.length_cons, List.length_nil, wlS, wpS]; rw [sizeLine_eq]; decide)) rfl) ?_)
  refine ws_share 5 rfl ?_
  walk_at "env"
  refine ws_cons (ws_setO 5 nd (EO.eq (c' := .lst (((wlS m n).take 19).map .str)) (eo_cat (ed_var 5 rfl) (ed_lst (eo_lst (ad_cons (ed_bin ed_str (ed_var 3 rfl) (b2_addS (add_ok (show ("shape metal 0 0 1 " : Str).length ≤ 100 by decide +kernel) hI))) (ad_cons ed_str (ad_cons ed_str (ad_cons ed_str (ad_cons ed_str ad_nil))))))) (by simp only [List.length_map, List.length_take, List.length_cons, List.length_nil, wlS, wpS]; rw [sizeLine_eq]; decide)) rfl) ?_)
  refine ws_share 5 rfl ?_
  walk_at "env"
  refine ws_cons (ws_setO 5 nd (EO.eq (c' := .lst (((wlS m n).take 22).map .str)) (eo_cat (ed_var 5 rfl) (ed_lst (eo_lst (ad_cons (ed_bin (ed_bin ed_str (ed_var 4 rfl) (b2_addS (add_ok (show ("label " : Str).length ≤ 100 by decide +kernel) hB))) ed_str (b2_addS (add_ok2 (show ("label " : Str).length ≤ 100 by decide +kernel) hB (show (" metal 0 0" : Str).length ≤ 100 by decide +kernel)))) (ad_cons (ed_bin (ed_bin ed_str (ed_var 3 rfl) (b2_addS (add_ok (show ("label a metal " : Str).length ≤ 100 by decide +kernel) hI))) ed_str (b2_addS (add_ok2 (show ("label a metal " : Str).length ≤ 100 by decide +kernel) hI (show (" 0" : Str).length ≤ 100 by decide +kernel)))) (ad_cons (ed_bin (ed_bin ed_str (ed_var 1 rfl) (b2_addS (add_ok (show ("place " : Str).length ≤ 100 by decide +kernel) hN))) ed_str (b2_addS (add_ok2 (show ("place " : Str).length ≤ 100 by decide +kernel) hN (show (" 0 0 0 1 1 0 0" : Str).length ≤ 100 by decide +kernel)))) ad_nil))))) (by simp only [List.length_map, List.length_take, List.length_cons, List.length_nil, wlS, wpS]; rw [sizeLine_eq]; decide)) rfl) ?_)
  refine ws_share 5 rfl ?_
  walk_at "env"
  refine ws_cons (ws_setO 5 nd (EO.eq (c' := .lst (((wlS m n).take 26).map .str)) (eo_cat (ed_var 5 rfl) (ed_lst (eo_lst (ad_cons ed_str (ad_cons (ed_bin ed_str (ed_var 1 rfl) (b2_addS (add_ok (show ("place " : Str).length ≤ 100 by decide +kernel) hN))) (ad_cons ed_str (ad_cons (ed_bin (ed_bin ed_str (ed_var 4 rfl) (b2_addS (add_ok (show ("place " : Str).length ≤ 100 by decide +kernel) hB))) ed_str (b2_addS (add_ok2 (show ("place " : Str).length ≤ 100 by decide +kernel) hB (show (" 0 0 0 1 1 0 0" : Str).length ≤ 100 by decide +kernel)))) ad_nil)))))) (by simp only [List.length_map, List.length_take, List.length_cons, List.length_nil, wlS, wpS]; rw [sizeLine_eq]; decide)) rfl) ?_)
  refine ws_share 5 rfl ?_
  walk_at "env"
  refine ws_cons (ws_ret (ED.eq (ED.eq (ed_ix (ED.eq (d' := .lst ((wlS m n).map .str)) (ed_var 5 rfl) rfl) (ed_bin (ed_var 0 rfl) (ED.eq (ed_callB (id := "len") (by rfl) B.«len» bb_len (ad_cons (ed_var 5 rfl) ad_nil) (by walk_at "bc")) (show _ = (.int 26) from by rfl)) (by walk_at "b2")) (.l (at_getI (xs := wlS m n) (f := D.str) (i := d % 26) (a := "") (by show _ ∧ _ < (26 : Int); omega)))) (show D.str ((wlS m n).getD (d % 26).toNat "") = _ by rw [wl_str, wlAt_get])) ?_) (Or.inl rfl))
  rfl
abbrev s_law_wrong_place : Stmt := top 55
theorem sc_law_wrong_place : FnScope ["draw", "more", "name", "integer", "lines"] ["draw", "more", "name"] (defScope s_law_wrong_place) := ⟨rfl, rfl, rfl, by decide +kernel, rfl, by decide +kernel, by decide +kernel⟩
theorem ok_law_wrong_place {f : Addr} {fd : FuncData} (F : Fun K "_law_wrong_place" "_law_wrong_place" s_law_wrong_place f fd) (B : Bt mg) (KC : Kt K mg) (KL : Lt K mg) (WD : Zdt K w mg) (KT : Ktt K mg) (XF : Xt K mg) (G_law_qbad_integer : Fn P w K mg base "_law_qbad_integer" 1 R_law_qbad_integer) :
    FnOk P w K mg base CX0 2 f fd ["draw", "more", "name"] (spR K R_law_wrong_place) := by
  refine fn_ok (k := 1) F sc_law_wrong_place (fun ds d h => by cases h <;> rfl) fun ds d hR cdv A outer s H E hr => ?_
  have nd := sc_law_wrong_place.nd
  have hu := hr.units
  rcases hR with ⟨d, m, n, hd, hm, hN⟩
  have hI : (badIw m).length ≤ 41 := (badI_no m).2.n
  walk_at "en"
  refine ws_cons (ws_set 3 nd (ed_call G_law_qbad_integer (hr.mono (by decide)) (by rfl) (ad_cons (ed_var 1 rfl) ad_nil) (by exact .mk _ hm)) ?_)
  walk_at "env"
  refine ws_cons (ws_setO 4 nd (eo_lst (ad_cons ed_str (ad_cons ed_str (ad_cons ed_str (ad_cons ed_str (ad_cons ed_str (ad_cons ed_str ad_nil))))))) ?_)
  refine ws_share 4 rfl ?_
  walk_at "env"
  refine ws_cons (ws_setO 4 nd (EO.eq (c' := .lst (((wpS m).take 11).map .str)) (eo_cat (ed_var 4 rfl) (ed_lst (eo_lst (ad_cons ed_str (ad_cons ed_str (ad_cons (ed_bin (ed_var 3 rfl) ed_str (b2_addS (by have e9 : (" 0 0 1 1 0 0" : Str).length = 12 := (by decide +kernel); rw [e9, sizeLine_eq]; omega))) (ad_cons (ed_bin ed_str (ed_var 3 rfl) (b2_addS (add_ok (show ("0 0 0 1 1 0 " : Str).length ≤ 100 by decide +kernel) hI))) (ad_cons (ed_bin (ed_bin ed_str (ed_var 3 rfl) (b2_addS (add_ok (show ("0 " : Str).length ≤ 100 by decide +kernel) hI))) ed_str (b2_addS (add_ok2 (show ("0 " : Str).length ≤ 100 by decide +kernel) hI (show (" 0 1 1 0 0" : Str).length ≤ 100 by decide +kernel)))) ad_nil))))))) (by simp only [List.length_map, List.length_take, List.length_cons, List.length_nil, wlS, wpS]; rw [sizeLine_eq]; decide)) rfl) ?_)
  refine ws_share 4 rfl ?_
  walk_at "env"
  refine ws_cons (ws_ret (ED.eq (ED.eq (ed_bin (ed_bin (ed_bin ed_str (ed_var 2 rfl) (b2_addS (add_ok (show ("place " : Str).length ≤ 100 by decide +kernel) hN))) ed_str (b2_addS (add_ok2 (show ("place " : Str).length ≤ 100 by decide +kernel) hN (show (" " : Str).length ≤ 100 by decide +kernel)))) (ED.eq (ed_ix (ED.eq (d' := .lst ((wpS m).map .str)) (ed_var 4 rfl) rfl) (ed_bin (ed_var 0 rfl) (ED.eq (ed_callB (id := "len") (by rfl) B.«len» bb_len (ad_cons (ed_var 4 rfl) ad_nil) (by walk_at "bc")) (show _ = (.int 11) from by rfl)) (by walk_at "b2")) (.l (at_getI (xs := wpS m) (f := D.str) (i := d % 11) (a := "") (by show _ ∧ _ < (11 : Int); omega)))) (show D.str ((wpS m).getD (d % 11).toNat "") = D.str (lnW (wpAt m d)) by rw [wp_str, wpAt_get])) (b2_addS (wp_room hN (wpAt_mem m d)))) (congrArg D.str (wp_ln (wp_ne (wpAt_mem m d))))) ?_) (Or.inl rfl))
  rfl
abbrev s_law : Stmt := top 56
theorem sc_law : FnScope ["script", "rows", "lines", "draws", "k", "more", "wrong", "first", "sixty", "at", "name", "bad", "line"] ["script"] (defScope s_law) := ⟨rfl, rfl, rfl, by decide +kernel, rfl, by decide +kernel, by decide +kernel⟩
theorem ok_law {f : Addr} {fd : FuncData} (F : Fun K "law" "law" s_law f fd) (B : Bt mg) (KC : Kt K mg) (KL : Lt K mg) (WD : Zdt K w mg) (KT : Ktt K mg) (XF : Xt K mg) (G_law_cell : Fn P w K mg base "_law_cell" 1 R_law_cell) (G_law_draws : Fn P w K mg base "_law_draws" 1 R_law_draws) (G_law_line : Fn P w K mg base "_law_line" 10 R_law_line) (G_law_qcells : Fn P w K mg base "_law_qcells" 3 R_law_qcells) (G_law_qtext : Fn P w K mg base "_law_qtext" 1 R_law_qtext) (G_law_wrong_line : Fn P w K mg base "_law_wrong_line" 2 R_law_wrong_line) (G_law_wrong_place : Fn P w K mg base "_law_wrong_place" 2 R_law_wrong_place) :
    FnOk P w K mg base CX0 11 f fd ["script"] (spR K R_law) := by
  refine fn_ok (k := 10) F sc_law (fun ds d h => by cases h <;> rfl) fun ds d hR cdv A outer s H E hr => ?_
  have nd := sc_law.nd
  have hu := hr.units
  rcases hR with ⟨ns, hlen⟩
  obtain ⟨k4, hk4⟩ : ∃ k : Nat, k = (1 + cellAt ns 0 % 4).toNat := ⟨_, rfl⟩
  have hk9 : 1 ≤ k4 ∧ k4 ≤ 4 := by omega
  obtain ⟨Q, hQ⟩ : ∃ Q, Q = qRws ns 4 k4 := ⟨_, rfl⟩
  have t : TxR Q := by rw [hQ]; exact qRws_tx ns 4 (by omega)
  have hQl : Q.length = k4 := by rw [hQ]; exact qRws_len ns 4 k4
  have hz2 : ("zz" : Str) ∉ Q.map (·.n) := by rw [hQ]; exact qRws_nm (by omega) noFig_zz
  have hz4 : ("zzzz" : Str) ∉ Q.map (·.n) := by rw [hQ]; exact qRws_nm (by omega) noFig_z4
  have hl32 : (prts Q).length ≤ 32 := by rw [hQ]; exact few_lR ns 4 hk9.2
  have hl1 : 1 ≤ (prts Q).length := prts_pos (by intro e; rw [e] at hQl; simp at hQl; omega)
  obtain ⟨r0, Q9, hQc⟩ : ∃ r q, Q = r :: q := List.exists_cons_of_ne_nil (by intro e; rw [e] at hQl; simp at hQl; omega)
  have hr0 : Q[0]? = some r0 := by rw [hQc]; rfl
  have hr0m : r0 ∈ Q := List.mem_of_getElem? hr0
  have hr0k : nameB r0.n = true := (t.cel r0 hr0m).n
  have hr0l : r0.n.length ≤ 41 := (name_w hr0k).n
  have tZ : TxR (Q ++ [cZ r0]) := cZ_tx t (by omega) hz2 hr0m
  have hZl : (prts (Q ++ [cZ r0])).length = (prts Q).length + 2 := by rw [prts_snoc, List.length_append]; rfl
  have hlZ : ((prts (Q ++ [cZ r0])).map LPart.ws).length ≤ 1300 := by rw [List.length_map]; omega
  have hZne : (prts (Q ++ [cZ r0])).map LPart.ws ≠ [] := by intro e; have h9 := congrArg List.length e; rw [List.length_map, List.length_nil] at h9; omega
  have hzp : ∀ {ww : List Str} {rr : List (List Str)}, WsM ww → LBad ⟨Q, some ⟨(cZ r0).n, (cZ r0).S, (cZ r0).L, (cZ r0).P, lwW (cZ r0)⟩⟩ ww → (∀ ws ∈ rr, WsM ws) → rr.length ≤ 60 → PXl ((prts (Q ++ [cZ r0])).map LPart.ws ++ ww :: rr) (((prts (Q ++ [cZ r0])).length : Int) + 1) := fun hw hb hr9 hl9 => by
    have h := pxl_at tZ (by omega) hw hb hr9 hl9
    rwa [show ((1 : Nat) : Int) + ((prts (Q ++ [cZ r0])).length : Int) = ((prts (Q ++ [cZ r0])).length : Int) + 1 by omega] at h
  have hpE : PXl ((prts (Q ++ [cZ r0])).map LPart.ws ++ ([[""]] : List (List Str))) (((prts (Q ++ [cZ r0])).length : Int) + 1) := hzp (wm_of (by simp) (by simp) (wc lits83.1.1 wz)) (.no _ (.unk _ _ (by simp [unkW]))) (fun _ h => (by cases h)) (by simp)
  have hpD := dup_px t (by omega) hQc
  walk_at "en"
  refine ws_cons (ws_set 1 nd (ED.eq (ed_call G_law_qcells (hr.mono (by decide)) (by rfl) (ad_cons (ed_var 0 rfl) (ad_cons ed_int (ad_cons (ed_bin ed_int (ed_bin (ed_callT (T := "int") (by rfl) B.«int» bb_int (ad_cons (ed_call G_law_cell (hr.mono (by decide)) (by rfl) (ad_cons (ed_var 0 rfl) (ad_cons ed_int ad_nil)) (by exact .mk _ _ (by omega))) ad_nil) (by walk_at "bc")) ed_int (by walk_at "b2")) (by walk_at "b2")) ad_nil))) (by exact .mk ns 4 _ hlen (by decide) (by omega))) (show _ = (D.lst (Q.map rwC)) from by rw [hQ, hk4])) ?_)
  walk_at "env"
  refine ws_cons (ws_set 2 nd (ED.eq (ed_call G_law_qtext (hr.mono (by decide)) (by rfl) (ad_cons (ed_var 1 rfl) ad_nil) (by exact .mk Q t.sm (by omega))) (show _ = (D.lst (((((prts Q).map LPart.ws)).map lnW).map D.str)) from by rw [lnR_ws])) ?_)
  walk_at "env"
  refine ws_cons (ws_set 3 nd (ed_call G_law_draws (hr.mono (by decide)) (by rfl) (ad_cons (ed_call G_law_cell (hr.mono (by decide)) (by rfl) (ad_cons (ed_var 0 rfl) (ad_cons ed_int ad_nil)) (by exact .mk _ _ (by omega))) (ad_cons ed_int ad_nil)) (by exact .mk _ _ (by omega) (by omega))) ?_)
  walk_at "env"
  refine ws_cons (ws_forU (List.range (6)) (fun (i : Nat) => D.int (i : Int)) rfl (id_range1 (by rfl) B.«range» ed_int (by walk_at "side")) (by exact rngD0 _) (U := Sl × Sl × Sl × Sl) (fun i u => [(4, u.1), (9, u.2.1), (10, u.2.2.1), (11, u.2.2.2)]) (fun r => (r.getD 4 .no, r.getD 9 .no, r.getD 10 .no, r.getD 11 .no)) (fun _ => True) (rfl) (True.intro) ?_ ?_)
  · intro i0 t u0 hx0 hP0
    obtain rfl : i0 = t := by
      obtain ⟨hl, he⟩ := List.getElem?_eq_some_iff.mp hx0
      rw [List.getElem_range] at he; exact he
    have hi0 : i0 < 6 := by have := (List.getElem?_eq_some_iff.mp hx0).1; rwa [List.length_range] at this
    obtain ⟨j9, hj9⟩ : ∃ j : Nat, (j : Int) = dr (cellAt ns 1) 24 (4 * (i0 : Int)) % ((prts Q).length : Int) := ⟨(dr (cellAt ns 1) 24 (4 * (i0 : Int)) % ((prts Q).length : Int)).toNat, by have := Int.emod_nonneg (dr (cellAt ns 1) 24 (4 * (i0 : Int))) (show ((prts Q).length : Int) ≠ 0 by omega); omega⟩
    have hj8 : (j9 : Int) < ((prts Q).length : Int) := by rw [hj9]; exact Int.emod_lt_of_pos _ (by omega)
    obtain ⟨ds, d, td, he, hnm⟩ := cut_exR Q t (j9 + 1) (by omega) (by omega)
    have hdk : nameB d.n = true := (td.cel d (by simp)).n
    have hdl : ds.length ≤ 58 := by have h9 := congrArg List.length (runD_full (ds ++ [d])); have h8 := runD_all (prts (ds ++ [d])); rw [h9, he, List.length_append, List.length_take] at h8; omega
    obtain ⟨ww, hww⟩ : ∃ w, w = wlAt (dr (cellAt ns 1) 24 (4 * (i0 : Int) + 2)) d.n (dr (cellAt ns 1) 24 (4 * (i0 : Int) + 1)) := ⟨_, rfl⟩
    have hwm : ww ∈ wlW (dr (cellAt ns 1) 24 (4 * (i0 : Int) + 2)) d.n := by rw [hww]; exact wlAt_mem _ _ _
    have hbad := wl_bad (ds := ds) (x := ⟨d.n, d.S, d.L, d.P, lwW d⟩) (lwW_in d) hdl (cut_nR td) (cut_zR hnm hz4) hdk ww hwm
    have hpx := pxl_cut t (by omega) (by omega) (by omega) td he hbad.2 hbad.1
    refine ⟨_, _, (dg_name 4 nd), ?_⟩
    walk_at "env"
    refine ws_cons (ws_set 9 nd (ed_bin ed_int (ED.eq (ed_bin (ed_ix (ed_var 3 rfl) (ed_bin ed_int (ed_var 4 rfl) (by walk_at "b2")) (by walk_at "ix")) (ED.eq (ed_callB (id := "len") (by rfl) B.«len» bb_len (ad_cons (ed_var 2 rfl) ad_nil) (by walk_at "bc")) (show _ = (.int ((prts Q).length : Int)) from by rw [List.length_map, List.length_map, List.length_map])) (by walk_at "b2")) (show _ = (.int (j9 : Int)) from by rw [hj9])) (by walk_at "b2")) ?_)
    walk_at "env"
    refine ws_cons (ws_set 10 nd (ed_ix (ed_lst (eo_filter [("line", 12)] (prts (ds ++ [d])) (fun l : LPart => D.str (lnW l.ws)) (isCl) (fun l : LPart => D.str (nmP l)) rfl nd (blkOk_by (N := ["script", "rows", "lines", "draws", "k", "more", "wrong", "first", "sixty", "at", "name", "bad", "line"]) (sc := defScope s_law) (by decide +kernel)) (id_list (ED.eq (d' := .lst ((prts (ds ++ [d])).map fun l => D.str (lnW l.ws))) (ed_lst (eo_slice (ed_var 2 rfl) no_part (some_part (ed_var 9 rfl)))) (by rw [ls_take83 _ (by omega), show (1 + (j9 : Int)).toNat = j9 + 1 by omega, ← List.map_take, ← he, List.map_map (f := LPart.ws), List.map_map]; rfl))) (rfl) (fun l hxm => turn_if (fun hp1 => ⟨_, by rfl, fun _ _ _ _ _ => ⟨(dg_name 12 nd), tds_one (TD.eq (td_truth (ED.eq (ed_starts (ed_var 12 rfl) ed_str) (show _ = D.bl (isCl l) by rw [pt_sw])) rfl) hp1), (ed_ix (ED.eq (ed_lst (eo_split (ed_var 12 rfl) ed_str (by decide +kernel) (by have := LPart.len (td.pt l hxm); rw [sizeLine_eq]; omega))) (show _ = D.lst (.str l.wd :: .str (nmP l) :: (l.ws.drop 2).map .str) by rw [LPart.split (td.pt l hxm)]; exact pt_w2 l)) ed_int IX.l1)⟩⟩) (fun hp1 => ⟨_, by rfl, fun _ _ _ _ _ => ⟨(dg_name 12 nd), tds_one (TD.eq (td_truth (ED.eq (ed_starts (ed_var 12 rfl) ed_str) (show _ = D.bl (isCl l) by rw [pt_sw])) rfl) hp1)⟩⟩)) (by rw [he, List.length_take, sizeLine_eq]; omega))) (ed_neg ed_int) (.l at_nmR)) ?_)
    walk_at "env"
    refine ws_cons (ws_setO 11 nd (EO.eq (c' := .lst (((((prts Q).map LPart.ws).take (j9 + 1) ++ [ww] ++ ((prts Q).map LPart.ws).drop (j9 + 1)).map lnW).map D.str)) (eo_cat (ed_lst (eo_cat (ED.eq (d' := D.lst (((((prts Q).map LPart.ws).take (j9 + 1)).map lnW).map D.str)) (ed_lst (eo_slice (ed_var 2 rfl) no_part (some_part (ed_var 9 rfl)))) (by rw [ls_take83 _ (by omega), show (1 + (j9 : Int)).toNat = j9 + 1 by omega])) (ed_lst (eo_lst (ad_cons (ED.eq (ed_call G_law_wrong_line (hr.mono (by decide)) (by rfl) (ad_cons (ed_ix (ed_var 3 rfl) (ed_bin (ed_bin ed_int (ed_var 4 rfl) (by walk_at "b2")) ed_int (by walk_at "b2")) (by walk_at "ix")) (ad_cons (ed_var 10 rfl) (ad_cons (ed_ix (ed_var 3 rfl) (ed_bin (ed_bin ed_int (ed_var 4 rfl) (by walk_at "b2")) ed_int (by walk_at "b2")) (by walk_at "ix")) ad_nil))) (by exact .mk _ _ _ (dr_lo _ _ _).1 (dr_lo _ _ _).1 (name_w hdk).n)) (show _ = (.str (lnW ww)) from by rw [hww])) ad_nil))) (by simp only [List.length_map, List.length_append, List.length_take, List.length_drop, List.length_cons, List.length_nil]; rw [sizeLine_eq]; omega))) (ED.eq (d' := D.lst (((((prts Q).map LPart.ws).drop (j9 + 1)).map lnW).map D.str)) (ed_lst (eo_slice (ed_var 2 rfl) (some_part (ed_var 9 rfl)) no_part)) (by rw [ls_drop83 _ (by omega), show (1 + (j9 : Int)).toNat = j9 + 1 by omega])) (by simp only [List.length_map, List.length_append, List.length_take, List.length_drop, List.length_cons, List.length_nil]; rw [sizeLine_eq]; omega)) (by rw [ls_app83, ls_app83]; rfl)) ?_)
    refine ws_share 11 rfl ?_
    walk_at "env"
    refine ws_cons (ws_if (td_cmp (ed_call G_law_line (hr.mono (by decide)) (by rfl) (ad_cons (ED.eq (ed_join (zs := (((prts Q).map LPart.ws).take (j9 + 1) ++ [ww] ++ ((prts Q).map LPart.ws).drop (j9 + 1)).map lnW) ed_str (.lst _) (ed_var 11 rfl) (jn_room hpx.ok.1 hpx.ok.2.1)) (show _ = D.str (txW (((prts Q).map LPart.ws).take (j9 + 1) ++ [ww] ++ ((prts Q).map LPart.ws).drop (j9 + 1))) from rfl)) ad_nil) (.mk _ _ (.bad _ _ hpx))) (ed_bin (ed_var 9 rfl) ed_int (by walk_at "b2")) (by walk_at "c2")) (fun hc2 => ?_) (fun hc2 => ?_))
    · skip
      exfalso; simp at hc2 <;> omega
    · skip
      clear hc2
      refine ws_nil ?_
      refine ws_nil ?_
      exact ⟨rfl, True.intro⟩
  · intro u0 hP0
    walk_at "env"
    refine ws_cons (ws_setO 5 nd (EO.eq (c' := .lst (((((prts (Q ++ [cZ r0])).map LPart.ws)).map lnW).map D.str)) (eo_cat (ed_var 2 rfl) (ed_lst (eo_lst (ad_cons ed_str (ad_cons (ED.eq (ed_bin (ed_bin ed_str (ed_ix (ED.eq (ed_ix (d := rwC r0) (ed_var 1 rfl) ed_int (.l (atI_nat (j := 0) (by rw [List.getElem?_map, hr0]; rfl)))) (show _ = D.tup [.str r0.n, .lst (r0.S.map shE), .lst (r0.L.map Lab.e), .lst (r0.P.map Pla.e)] from rfl)) ed_int IX.t0) (b2_addS (add_ok (show ("place " : Str).length ≤ 100 by decide +kernel) hr0l))) ed_str (b2_addS (add_ok2 (show ("place " : Str).length ≤ 100 by decide +kernel) hr0l (show (" 0 0 0 1 1 0 0" : Str).length ≤ 100 by decide +kernel)))) (congrArg D.str (pl0_str r0.n))) ad_nil)))) (by simp only [List.length_map, List.length_append, List.length_take, List.length_drop, List.length_cons, List.length_nil]; rw [sizeLine_eq]; omega)) (by rw [wsR_Z, ls_app83, ← celzz]; rfl)) ?_)
    refine ws_share 5 rfl ?_
    walk_at "env"
    refine ws_cons (ws_if (td_tw (tw_or (td_cmp (ed_call G_law_line (hr.mono (by decide)) (by rfl) (ad_cons (ED.eq (ED.eq (ed_join (zs := (((prts (Q ++ [cZ r0])).map LPart.ws)).map lnW) ed_str (.lst _) (ed_var 5 rfl) (jn_room (prt_wm tZ) hlZ)) (show _ = D.str (txW (((prts (Q ++ [cZ r0])).map LPart.ws))) from rfl)) (show _ = D.str (txR (Q ++ [cZ r0])) by rw [txR_w])) ad_nil) (.mk _ _ (.ok _ tZ))) ed_int (by walk_at "c2")) (fun hb4 => (tw_or1 (td_cmp (ed_call G_law_line (hr.mono (by decide)) (by rfl) (ad_cons (ED.eq (ed_bin (ED.eq (ed_join (zs := (((prts (Q ++ [cZ r0])).map LPart.ws)).map lnW) ed_str (.lst _) (ed_var 5 rfl) (jn_room (prt_wm tZ) hlZ)) (show _ = D.str (txW (((prts (Q ++ [cZ r0])).map LPart.ws))) from rfl)) ed_str (b2_addS (by have := txM_len (prt_wm tZ) hlZ; rw [lens.2.2.2.2.2, sizeLine_eq]; omega))) (show _ = D.str (txW (((prts (Q ++ [cZ r0])).map LPart.ws) ++ ([[""]] : List (List Str)))) from congrArg D.str (txW_nl hZne))) ad_nil) (.mk _ _ (.bad _ _ hpE))) (ed_bin (ED.eq (ed_callB (id := "len") (by rfl) B.«len» bb_len (ad_cons (ed_var 5 rfl) ad_nil) (by walk_at "bc")) (show _ = (.int ((prts (Q ++ [cZ r0])).length : Int)) from by rw [List.length_map, List.length_map, List.length_map])) ed_int (by walk_at "b2")) (by walk_at "c2")))))) (fun hc3 => ?_) (fun hc3 => ?_))
    · skip
      exfalso; simp at hc3 <;> omega
    · skip
      clear hc3
      refine ws_nil ?_
      refine ws_cons (ws_forU (List.range (4)) (fun (i : Nat) => D.int (i : Int)) rfl (id_range1 (by rfl) B.«range» ed_int (by walk_at "side")) (by exact rngD0 _) (U := Sl × Sl) (fun i u => [(4, u.1), (6, u.2)]) (fun r => (r.getD 4 .no, r.getD 6 .no)) (fun _ => True) (rfl) (True.intro) ?_ ?_)
      · intro i1 t u1 hx1 hP1
        obtain rfl : i1 = t := by
          obtain ⟨hl, he⟩ := List.getElem?_eq_some_iff.mp hx1
          rw [List.getElem_range] at he; exact he
        have hi1 : i1 < 4 := by have := (List.getElem?_eq_some_iff.mp hx1).1; rwa [List.length_range] at this
        obtain ⟨xs9, hxs9⟩ : ∃ x, x = wpAt (dr (cellAt ns 1) 24 ((i1 : Int) + 4)) (dr (cellAt ns 1) 24 (i1 : Int)) := ⟨_, rfl⟩
        obtain ⟨ww, hww⟩ : ∃ w : List Str, w = ("place" : Str) :: r0.n :: wpAt (dr (cellAt ns 1) 24 ((i1 : Int) + 4)) (dr (cellAt ns 1) 24 (i1 : Int)) := ⟨_, rfl⟩
        have hwb := wp_bad (n := r0.n) hr0k _ (wpAt_mem (dr (cellAt ns 1) 24 ((i1 : Int) + 4)) (dr (cellAt ns 1) 24 (i1 : Int)))
        rw [← hww] at hwb
        have hpx := hzp (rr := [["cell", "zy"]]) hwb.2 (.no _ hwb.1) (fun ws h => by rw [List.mem_singleton.mp h]; exact zy_wm) (by simp)
        refine ⟨_, _, (dg_name 4 nd), ?_⟩
        walk_at "env"
        refine ws_cons (ws_set 6 nd (ED.eq (ed_call G_law_wrong_place (hr.mono (by decide)) (by rfl) (ad_cons (ed_ix (ed_var 3 rfl) (ed_var 4 rfl) (by walk_at "ix")) (ad_cons (ed_ix (ed_var 3 rfl) (ed_bin (ed_var 4 rfl) ed_int (by walk_at "b2")) (by walk_at "ix")) (ad_cons (ed_ix (ED.eq (ed_ix (d := rwC r0) (ed_var 1 rfl) ed_int (.l (atI_nat (j := 0) (by rw [List.getElem?_map, hr0]; rfl)))) (show _ = D.tup [.str r0.n, .lst (r0.S.map shE), .lst (r0.L.map Lab.e), .lst (r0.P.map Pla.e)] from rfl)) ed_int IX.t0) ad_nil))) (by exact .mk _ _ _ (dr_lo _ _ _).1 (dr_lo _ _ _).1 hr0l)) (show _ = (.str (lnW ww)) from by rw [hww])) ?_)
        walk_at "env"
        refine ws_cons (ws_if (td_cmp (ed_call G_law_line (hr.mono (by decide)) (by rfl) (ad_cons (ED.eq (ed_join (zs := (((prts (Q ++ [cZ r0])).map LPart.ws) ++ ([ww, ["cell", "zy"]] : List (List Str))).map lnW) ed_str (.lst _) (ED.eq (d' := D.lst (((((prts (Q ++ [cZ r0])).map LPart.ws) ++ ([ww, ["cell", "zy"]] : List (List Str))).map lnW).map D.str)) (ed_lst (eo_cat (ed_var 5 rfl) (ed_lst (eo_lst (ad_cons (ed_var 6 rfl) (ad_cons ed_str ad_nil)))) (by simp only [List.length_map, List.length_append, List.length_take, List.length_drop, List.length_cons, List.length_nil]; rw [sizeLine_eq]; omega))) (by rw [ls_app83, ← zy_str]; rfl)) (jn_room hpx.ok.1 hpx.ok.2.1)) (show _ = D.str (txW (((prts (Q ++ [cZ r0])).map LPart.ws) ++ ([ww, ["cell", "zy"]] : List (List Str)))) from rfl)) ad_nil) (.mk _ _ (.bad _ _ hpx))) (ed_bin (ED.eq (ed_callB (id := "len") (by rfl) B.«len» bb_len (ad_cons (ed_var 5 rfl) ad_nil) (by walk_at "bc")) (show _ = (.int ((prts (Q ++ [cZ r0])).length : Int)) from by rw [List.length_map, List.length_map, List.length_map])) ed_int (by walk_at "b2")) (by walk_at "c2")) (fun hc5 => ?_) (fun hc5 => ?_))
        · skip
          exfalso; simp at hc5 <;> omega
        · skip
          clear hc5
          refine ws_nil ?_
          refine ws_nil ?_
          exact ⟨rfl, True.intro⟩
      · intro u1 hP1
        walk_at "env"
        refine ws_cons (ws_forU (moL) (fun ws => D.str (lnW ws)) rfl (id_list (ED.eq (d' := .lst (moL.map fun ws => D.str (lnW ws))) (ed_lst (eo_lst (ad_cons ed_str (ad_cons ed_str (ad_cons ed_str (ad_cons ed_str ad_nil)))))) (by rw [show (moL.map fun ws => D.str (lnW ws)) = (moL.map lnW).map D.str by rw [List.map_map]; rfl, ← moL_str]; rfl))) (by rfl) (U := Sl) (fun i u => [(6, u)]) (fun r => (r.getD 6 .no)) (fun _ => True) (rfl) (True.intro) ?_ ?_)
        · intro i2 ww u2 hx2 hP2
          have hmb := moL_bad (rs := Q) (by omega) hz2 r0 ww (List.mem_of_getElem? hx2)
          have hpx := hzp (rr := []) hmb.2 hmb.1 (fun _ h => (by cases h)) (by simp)
          refine ⟨_, _, (dg_name 6 nd), ?_⟩
          walk_at "env"
          refine ws_cons (ws_if (td_cmp (ed_call G_law_line (hr.mono (by decide)) (by rfl) (ad_cons (ED.eq (ed_join (zs := (((prts (Q ++ [cZ r0])).map LPart.ws) ++ [ww]).map lnW) ed_str (.lst _) (ED.eq (d' := D.lst (((((prts (Q ++ [cZ r0])).map LPart.ws) ++ [ww]).map lnW).map D.str)) (ed_lst (eo_cat (ed_var 5 rfl) (ed_lst (eo_lst (ad_cons (ed_var 6 rfl) ad_nil))) (by simp only [List.length_map, List.length_append, List.length_take, List.length_drop, List.length_cons, List.length_nil]; rw [sizeLine_eq]; omega))) (by rw [ls_app83]; rfl)) (jn_room hpx.ok.1 hpx.ok.2.1)) (show _ = D.str (txW (((prts (Q ++ [cZ r0])).map LPart.ws) ++ [ww])) from rfl)) ad_nil) (.mk _ _ (.bad _ _ hpx))) (ed_bin (ED.eq (ed_callB (id := "len") (by rfl) B.«len» bb_len (ad_cons (ed_var 5 rfl) ad_nil) (by walk_at "bc")) (show _ = (.int ((prts (Q ++ [cZ r0])).length : Int)) from by rw [List.length_map, List.length_map, List.length_map])) ed_int (by walk_at "b2")) (by walk_at "c2")) (fun hc6 => ?_) (fun hc6 => ?_))
          · skip
            exfalso; simp at hc6 <;> omega
          · skip
            clear hc6
            refine ws_nil ?_
            refine ws_nil ?_
            exact ⟨rfl, True.intro⟩
        · intro u2 hP2
          walk_at "env"
          refine ws_cons (ws_if (td_cmp (ed_call G_law_line (hr.mono (by decide)) (by rfl) (ad_cons (ED.eq (ed_join (zs := (([["cell", "a"], ["label", "b", "top", "0", "0"], sh0] : List (List Str))).map lnW) ed_str (.lst _) (ED.eq (ed_lst (eo_lst (ad_cons ed_str (ad_cons ed_str (ad_cons ed_str ad_nil))))) (show _ = D.lst (((([["cell", "a"], ["label", "b", "top", "0", "0"], sh0] : List (List Str))).map lnW).map D.str) by rw [← thr_str]; rfl)) (jn_room thr_px.ok.1 thr_px.ok.2.1)) (show _ = D.str (txW (([["cell", "a"], ["label", "b", "top", "0", "0"], sh0] : List (List Str)))) from rfl)) ad_nil) (.mk _ _ (.bad _ _ thr_px))) ed_int (by walk_at "c2")) (fun hc7 => ?_) (fun hc7 => ?_))
          · skip
            exfalso; simp at hc7 <;> omega
          · skip
            clear hc7
            refine ws_nil ?_
            refine ws_cons (ws_forU (fiL) (fun ws => D.str (lnW ws)) rfl (id_list (ED.eq (d' := .lst (fiL.map fun ws => D.str (lnW ws))) (ed_lst (eo_lst (ad_cons ed_str (ad_cons ed_str (ad_cons ed_str (ad_cons ed_str (ad_cons ed_str ad_nil))))))) (by rw [show (fiL.map fun ws => D.str (lnW ws)) = (fiL.map lnW).map D.str by rw [List.map_map]; rfl, ← fiL_str]; rfl))) (by rfl) (U := Sl) (fun i u => [(7, u)]) (fun r => (r.getD 7 .no)) (fun _ => True) (rfl) (True.intro) ?_ ?_)
            · intro i3 ww u3 hx3 hP3
              have hfb := fiL_bad ww (List.mem_of_getElem? hx3)
              have hpx := pxl_fst t hl1 (by omega) hfb.2 hfb.1
              refine ⟨_, _, (dg_name 7 nd), ?_⟩
              walk_at "env"
              refine ws_cons (ws_if (td_cmp (ed_call G_law_line (hr.mono (by decide)) (by rfl) (ad_cons (ED.eq (ed_join (zs := ([ww] ++ ((prts Q).map LPart.ws)).map lnW) ed_str (.lst _) (ED.eq (d' := D.lst ((([ww] ++ ((prts Q).map LPart.ws)).map lnW).map D.str)) (ed_lst (eo_cat (ed_lst (eo_lst (ad_cons (ed_var 7 rfl) ad_nil))) (ed_var 2 rfl) (by simp only [List.length_map, List.length_append, List.length_take, List.length_drop, List.length_cons, List.length_nil]; rw [sizeLine_eq]; omega))) (by rw [ls_app83]; rfl)) (jn_room hpx.ok.1 hpx.ok.2.1)) (show _ = D.str (txW ([ww] ++ ((prts Q).map LPart.ws))) from rfl)) ad_nil) (.mk _ _ (.bad _ _ hpx))) ed_int (by walk_at "c2")) (fun hc8 => ?_) (fun hc8 => ?_))
              · skip
                exfalso; simp at hc8 <;> omega
              · skip
                clear hc8
                refine ws_nil ?_
                refine ws_nil ?_
                exact ⟨rfl, True.intro⟩
            · intro u3 hP3
              walk_at "env"
              refine ws_cons (ws_setMap2 8 [("k", 4)] (List.range 61) (fun (i : Nat) => D.int (i : Int)) (fun (k : Nat) => ("cell m" : Str) ++ stI (k : Int)) (D.str) rfl nd (blkOk_by (N := ["script", "rows", "lines", "draws", "k", "more", "wrong", "first", "sixty", "at", "name", "bad", "line"]) (sc := defScope s_law) (by decide +kernel)) (id_range1 (by rfl) B.«range» ed_int (by walk_at "side")) (by exact rngD0 61) (fun z hxm => ⟨_, by rfl, fun _ _ _ _ _ => ⟨(dg_name 4 nd), tds_nil, (ed_bin ed_str (ed_callT (T := "str") (by rfl) B.«str» bb_str (ad_cons (ed_var 4 rfl) ad_nil) (bc_strI (log_small (List.mem_range.mp hxm) (by omega)))) (b2_addS (by have := (dig_ok (show z < 64 by have := List.mem_range.mp hxm; omega)).1; have e : ("cell m" : Str).length = 6 := (by decide +kernel); show ("cell m" : Str).length + (Str.ofString (toString (z : Int))).length ≤ _; rw [e, sizeLine_eq]; omega)))⟩⟩) (by rw [List.length_range, sizeLine_eq]; omega) ?_)
              refine ws_share 8 rfl ?_
              walk_at "env"
              refine ws_cons (ws_ret (ED.eq (ed_and (ed_cmp (ed_call G_law_line (hr.mono (by decide)) (by rfl) (ad_cons (ED.eq (ed_join (zs := (((prts (rs60 60)).map LPart.ws ++ ([["cell", "m60"]] : List (List Str)))).map lnW) ed_str (.lst _) (ED.eq (ed_var 8 rfl) (show _ = D.lst (((((prts (rs60 60)).map LPart.ws ++ ([["cell", "m60"]] : List (List Str)))).map lnW).map D.str) by rw [← sixL_str])) (jn_room sixL_px.ok.1 sixL_px.ok.2.1)) (show _ = D.str (txW (((prts (rs60 60)).map LPart.ws ++ ([["cell", "m60"]] : List (List Str))))) from rfl)) ad_nil) (.mk _ _ (.bad _ _ sixL_px))) ed_int (by walk_at "c2")) (fun hb10 => (ed_one (ed_cmp (ed_call G_law_line (hr.mono (by decide)) (by rfl) (ad_cons (ED.eq (ed_join (zs := (((prts Q).map LPart.ws).take 1 ++ ((prts Q).map LPart.ws)).map lnW) ed_str (.lst _) (ED.eq (d' := D.lst (((((prts Q).map LPart.ws).take 1 ++ ((prts Q).map LPart.ws)).map lnW).map D.str)) (ed_lst (eo_cat (ED.eq (d' := D.lst (((((prts Q).map LPart.ws).take 1).map lnW).map D.str)) (ed_lst (eo_slice (ed_var 2 rfl) no_part (some_part ed_int))) (by rw [ls_take83 _ (by decide)]; rfl)) (ed_var 2 rfl) (by simp only [List.length_map, List.length_append, List.length_take, List.length_drop, List.length_cons, List.length_nil]; rw [sizeLine_eq]; omega))) (by rw [ls_app83])) (jn_room hpD.ok.1 hpD.ok.2.1)) (show _ = D.str (txW (((prts Q).map LPart.ws).take 1 ++ ((prts Q).map LPart.ws))) from rfl)) ad_nil) (.mk _ _ (.bad _ _ hpD))) ed_int (by walk_at "c2"))))) ?_) (Or.inl rfl))
              simp
end
theorem all_mk {l : PySem.W.OpenLaw} {w : World} {K : PySem.W.Frag} {h : Heap} {mg : Str → Option Value} {fa : Addr} (X : K.In h) (G : h.Ns mainGlobals mg) (hfa : mg "law" = some (.ref fa))
    {C_Cell : Addr} (aC_Cell : PySem.W.nsIn K mainGlobals "Cell" = some (some (.ref C_Cell)))
    (pg_Cell : PySem.W.plainGet K C_Cell Str.empty = true) (hd_Cell : PySem.W.hasDictIn K C_Cell = true) (po_Cell : PySem.W.plainOver K C_Cell = true) (sa_Cell : PySem.W.findIn K (.ref C_Cell) "__setattr__" = some (some (.builtin "object.__setattr__"))) (ha_Cell : PySem.W.findIn K (.ref C_Cell) "__class__" = some (some (.builtin "object.__class__"))) (hn_Cell : PySem.W.specialIn K (.builtin "object.__class__") "__get__" = some (some (.builtin "getset_descriptor.__get__"))) (htk_Cell : PySem.W.takesIn K (.builtin "object.__class__") = some true) (hm_Cell : PySem.W.mroIn K C_Cell (.type "object") = some true) (kc_Cell : PySem.W.keepIn K (.ref C_Cell) = true) (mk_Cell : PySem.W.makesIn K C_Cell = true)
    (na0_Cell : PySem.W.findIn K (.ref C_Cell) "name" = some none)
    (na1_Cell : PySem.W.findIn K (.ref C_Cell) "shapes" = some none)
    (na2_Cell : PySem.W.findIn K (.ref C_Cell) "labels" = some none)
    (na3_Cell : PySem.W.findIn K (.ref C_Cell) "placements" = some none)
    {C_Library : Addr} (aC_Library : PySem.W.nsIn K mainGlobals "Library" = some (some (.ref C_Library)))
    (pg_Library : PySem.W.plainGet K C_Library Str.empty = true) (hd_Library : PySem.W.hasDictIn K C_Library = true) (po_Library : PySem.W.plainOver K C_Library = true) (sa_Library : PySem.W.findIn K (.ref C_Library) "__setattr__" = some (some (.builtin "object.__setattr__"))) (ha_Library : PySem.W.findIn K (.ref C_Library) "__class__" = some (some (.builtin "object.__class__"))) (hn_Library : PySem.W.specialIn K (.builtin "object.__class__") "__get__" = some (some (.builtin "getset_descriptor.__get__"))) (htk_Library : PySem.W.takesIn K (.builtin "object.__class__") = some true) (hm_Library : PySem.W.mroIn K C_Library (.type "object") = some true) (kc_Library : PySem.W.keepIn K (.ref C_Library) = true) (mk_Library : PySem.W.makesIn K C_Library = true)
    (na0_Library : PySem.W.findIn K (.ref C_Library) "_cells" = some none)
    (na1_Library : PySem.W.findIn K (.ref C_Library) "_shape_counts" = some none)
    (na2_Library : PySem.W.findIn K (.ref C_Library) "_label_counts" = some none)
    (na3_Library : PySem.W.findIn K (.ref C_Library) "_depths" = some none)
    {C_Draft : Addr} (aC_Draft : PySem.W.nsIn K mainGlobals "Draft" = some (some (.ref C_Draft)))
    (pg_Draft : PySem.W.plainGet K C_Draft Str.empty = true) (hd_Draft : PySem.W.hasDictIn K C_Draft = true) (po_Draft : PySem.W.plainOver K C_Draft = true) (sa_Draft : PySem.W.findIn K (.ref C_Draft) "__setattr__" = some (some (.builtin "object.__setattr__"))) (ha_Draft : PySem.W.findIn K (.ref C_Draft) "__class__" = some (some (.builtin "object.__class__"))) (hn_Draft : PySem.W.specialIn K (.builtin "object.__class__") "__get__" = some (some (.builtin "getset_descriptor.__get__"))) (htk_Draft : PySem.W.takesIn K (.builtin "object.__class__") = some true) (hm_Draft : PySem.W.mroIn K C_Draft (.type "object") = some true) (kc_Draft : PySem.W.keepIn K (.ref C_Draft) = true) (mk_Draft : PySem.W.makesIn K C_Draft = true)
    (na0_Draft : PySem.W.findIn K (.ref C_Draft) "_completed" = some none)
    (na1_Draft : PySem.W.findIn K (.ref C_Draft) "_name" = some none)
    (na2_Draft : PySem.W.findIn K (.ref C_Draft) "_parts" = some none)
    (na3_Draft : PySem.W.findIn K (.ref C_Draft) "_last_word" = some none)
    {f0 : Addr} {od0 an0 : Option Addr} {sl0 : Array (Option Value)} {oc0 kV0 dc0 pm0 cd0 ct0 : Value} (a0 : PySem.W.nsIn K mainGlobals "is_box" = some (some (.ref f0))) (l0 : K.lookup f0 = some ⟨oc0, od0, .func (PySem.W.fnOf "is_box" "is_box" (defArgs s_is_box) (defBody s_is_box) (defScope s_is_box) .none kV0 dc0 pm0 an0 cd0 ct0), sl0⟩) (c0 : PySem.W.codeIn K cd0 "is_box" = true) (k0 : PySem.W.keepIn K (.ref f0) = true)
    {f1 : Addr} {od1 an1 : Option Addr} {sl1 : Array (Option Value)} {oc1 kV1 dc1 pm1 cd1 ct1 : Value} (a1 : PySem.W.nsIn K mainGlobals "is_move" = some (some (.ref f1))) (l1 : K.lookup f1 = some ⟨oc1, od1, .func (PySem.W.fnOf "is_move" "is_move" (defArgs s_is_move) (defBody s_is_move) (defScope s_is_move) .none kV1 dc1 pm1 an1 cd1 ct1), sl1⟩) (c1 : PySem.W.codeIn K cd1 "is_move" = true) (k1 : PySem.W.keepIn K (.ref f1) = true)
    {f2 : Addr} {od2 an2 : Option Addr} {sl2 : Array (Option Value)} {oc2 kV2 dc2 pm2 cd2 ct2 : Value} (a2 : PySem.W.nsIn K mainGlobals "is_name" = some (some (.ref f2))) (l2 : K.lookup f2 = some ⟨oc2, od2, .func (PySem.W.fnOf "is_name" "is_name" (defArgs s_is_name) (defBody s_is_name) (defScope s_is_name) .none kV2 dc2 pm2 an2 cd2 ct2), sl2⟩) (c2 : PySem.W.codeIn K cd2 "is_name" = true) (k2 : PySem.W.keepIn K (.ref f2) = true)
    {f3 : Addr} {od3 an3 : Option Addr} {sl3 : Array (Option Value)} {oc3 kV3 dc3 pm3 cd3 ct3 : Value} (a3 : PySem.W.nsIn K mainGlobals "is_shape" = some (some (.ref f3))) (l3 : K.lookup f3 = some ⟨oc3, od3, .func (PySem.W.fnOf "is_shape" "is_shape" (defArgs s_is_shape) (defBody s_is_shape) (defScope s_is_shape) .none kV3 dc3 pm3 an3 cd3 ct3), sl3⟩) (c3 : PySem.W.codeIn K cd3 "is_shape" = true) (k3 : PySem.W.keepIn K (.ref f3) = true)
    {f4 : Addr} {od4 an4 : Option Addr} {sl4 : Array (Option Value)} {oc4 kV4 dc4 pm4 cd4 ct4 : Value} (a4 : PySem.W.nsIn K mainGlobals "is_label" = some (some (.ref f4))) (l4 : K.lookup f4 = some ⟨oc4, od4, .func (PySem.W.fnOf "is_label" "is_label" (defArgs s_is_label) (defBody s_is_label) (defScope s_is_label) .none kV4 dc4 pm4 an4 cd4 ct4), sl4⟩) (c4 : PySem.W.codeIn K cd4 "is_label" = true) (k4 : PySem.W.keepIn K (.ref f4) = true)
    {f5 : Addr} {od5 an5 : Option Addr} {sl5 : Array (Option Value)} {oc5 kV5 dc5 pm5 cd5 ct5 : Value} (a5 : PySem.W.nsIn K mainGlobals "is_placement" = some (some (.ref f5))) (l5 : K.lookup f5 = some ⟨oc5, od5, .func (PySem.W.fnOf "is_placement" "is_placement" (defArgs s_is_placement) (defBody s_is_placement) (defScope s_is_placement) .none kV5 dc5 pm5 an5 cd5 ct5), sl5⟩) (c5 : PySem.W.codeIn K cd5 "is_placement" = true) (k5 : PySem.W.keepIn K (.ref f5) = true)
    {f6 : Addr} {od6 an6 : Option Addr} {sl6 : Array (Option Value)} {oc6 kV6 dc6 pm6 cd6 ct6 : Value} (a6 : PySem.W.findIn K (.ref C_Cell) "__init__" = some (some (.ref f6))) (i6 : PySem.W.isFn K (.ref f6) = true) (l6 : K.lookup f6 = some ⟨oc6, od6, .func (PySem.W.fnOf "__init__" "Cell.__init__" (defArgs s_Cell_init) (defBody s_Cell_init) (defScope s_Cell_init) .none kV6 dc6 pm6 an6 cd6 ct6), sl6⟩) (c6 : PySem.W.codeIn K cd6 "Cell.__init__" = true) (k6 : PySem.W.keepIn K (.ref f6) = true)
    {f7 : Addr} {od7 an7 : Option Addr} {sl7 : Array (Option Value)} {oc7 kV7 dc7 pm7 cd7 ct7 : Value} (a7 : PySem.W.nsIn K mainGlobals "placed_count" = some (some (.ref f7))) (l7 : K.lookup f7 = some ⟨oc7, od7, .func (PySem.W.fnOf "placed_count" "placed_count" (defArgs s_placed_count) (defBody s_placed_count) (defScope s_placed_count) .none kV7 dc7 pm7 an7 cd7 ct7), sl7⟩) (c7 : PySem.W.codeIn K cd7 "placed_count" = true) (k7 : PySem.W.keepIn K (.ref f7) = true)
    {f8 : Addr} {od8 an8 : Option Addr} {sl8 : Array (Option Value)} {oc8 kV8 dc8 pm8 cd8 ct8 : Value} (a8 : PySem.W.findIn K (.ref C_Library) "__init__" = some (some (.ref f8))) (i8 : PySem.W.isFn K (.ref f8) = true) (l8 : K.lookup f8 = some ⟨oc8, od8, .func (PySem.W.fnOf "__init__" "Library.__init__" (defArgs s_Library_init) (defBody s_Library_init) (defScope s_Library_init) .none kV8 dc8 pm8 an8 cd8 ct8), sl8⟩) (c8 : PySem.W.codeIn K cd8 "Library.__init__" = true) (k8 : PySem.W.keepIn K (.ref f8) = true)
    {f9 : Addr} {od9 an9 : Option Addr} {sl9 : Array (Option Value)} {oc9 kV9 dc9 pm9 cd9 ct9 : Value} (a9 : PySem.W.findIn K (.ref C_Library) "_append_cell" = some (some (.ref f9))) (i9 : PySem.W.isFn K (.ref f9) = true) (l9 : K.lookup f9 = some ⟨oc9, od9, .func (PySem.W.fnOf "_append_cell" "Library._append_cell" (defArgs s_Library_append_cell) (defBody s_Library_append_cell) (defScope s_Library_append_cell) .none kV9 dc9 pm9 an9 cd9 ct9), sl9⟩) (c9 : PySem.W.codeIn K cd9 "Library._append_cell" = true) (k9 : PySem.W.keepIn K (.ref f9) = true)
    {f10 : Addr} {od10 an10 : Option Addr} {sl10 : Array (Option Value)} {oc10 kV10 dc10 pm10 cd10 ct10 : Value} (a10 : PySem.W.findIn K (.ref C_Library) "cell" = some (some (.ref f10))) (i10 : PySem.W.isFn K (.ref f10) = true) (l10 : K.lookup f10 = some ⟨oc10, od10, .func (PySem.W.fnOf "cell" "Library.cell" (defArgs s_Library_cell) (defBody s_Library_cell) (defScope s_Library_cell) .none kV10 dc10 pm10 an10 cd10 ct10), sl10⟩) (c10 : PySem.W.codeIn K cd10 "Library.cell" = true) (k10 : PySem.W.keepIn K (.ref f10) = true)
    {f11 : Addr} {od11 an11 : Option Addr} {sl11 : Array (Option Value)} {oc11 kV11 dc11 pm11 cd11 ct11 : Value} (a11 : PySem.W.findIn K (.ref C_Library) "shape_count" = some (some (.ref f11))) (i11 : PySem.W.isFn K (.ref f11) = true) (l11 : K.lookup f11 = some ⟨oc11, od11, .func (PySem.W.fnOf "shape_count" "Library.shape_count" (defArgs s_Library_shape_count) (defBody s_Library_shape_count) (defScope s_Library_shape_count) .none kV11 dc11 pm11 an11 cd11 ct11), sl11⟩) (c11 : PySem.W.codeIn K cd11 "Library.shape_count" = true) (k11 : PySem.W.keepIn K (.ref f11) = true)
    {f12 : Addr} {od12 an12 : Option Addr} {sl12 : Array (Option Value)} {oc12 kV12 dc12 pm12 cd12 ct12 : Value} (a12 : PySem.W.findIn K (.ref C_Library) "label_count" = some (some (.ref f12))) (i12 : PySem.W.isFn K (.ref f12) = true) (l12 : K.lookup f12 = some ⟨oc12, od12, .func (PySem.W.fnOf "label_count" "Library.label_count" (defArgs s_Library_label_count) (defBody s_Library_label_count) (defScope s_Library_label_count) .none kV12 dc12 pm12 an12 cd12 ct12), sl12⟩) (c12 : PySem.W.codeIn K cd12 "Library.label_count" = true) (k12 : PySem.W.keepIn K (.ref f12) = true)
    {f13 : Addr} {od13 an13 : Option Addr} {sl13 : Array (Option Value)} {oc13 kV13 dc13 pm13 cd13 ct13 : Value} (a13 : PySem.W.findIn K (.ref C_Library) "depth" = some (some (.ref f13))) (i13 : PySem.W.isFn K (.ref f13) = true) (l13 : K.lookup f13 = some ⟨oc13, od13, .func (PySem.W.fnOf "depth" "Library.depth" (defArgs s_Library_depth) (defBody s_Library_depth) (defScope s_Library_depth) .none kV13 dc13 pm13 an13 cd13 ct13), sl13⟩) (c13 : PySem.W.codeIn K cd13 "Library.depth" = true) (k13 : PySem.W.keepIn K (.ref f13) = true)
    {f14 : Addr} {od14 an14 : Option Addr} {sl14 : Array (Option Value)} {oc14 kV14 dc14 pm14 cd14 ct14 : Value} (a14 : PySem.W.findIn K (.ref C_Library) "_known" = some (some (.ref f14))) (i14 : PySem.W.isFn K (.ref f14) = true) (l14 : K.lookup f14 = some ⟨oc14, od14, .func (PySem.W.fnOf "_known" "Library._known" (defArgs s_Library_known) (defBody s_Library_known) (defScope s_Library_known) .none kV14 dc14 pm14 an14 cd14 ct14), sl14⟩) (c14 : PySem.W.codeIn K cd14 "Library._known" = true) (k14 : PySem.W.keepIn K (.ref f14) = true)
    {f15 : Addr} {od15 an15 : Option Addr} {sl15 : Array (Option Value)} {oc15 kV15 dc15 pm15 cd15 ct15 : Value} (a15 : PySem.W.nsIn K mainGlobals "is_integer" = some (some (.ref f15))) (l15 : K.lookup f15 = some ⟨oc15, od15, .func (PySem.W.fnOf "is_integer" "is_integer" (defArgs s_is_integer) (defBody s_is_integer) (defScope s_is_integer) .none kV15 dc15 pm15 an15 cd15 ct15), sl15⟩) (c15 : PySem.W.codeIn K cd15 "is_integer" = true) (k15 : PySem.W.keepIn K (.ref f15) = true)
    {f16 : Addr} {od16 an16 : Option Addr} {sl16 : Array (Option Value)} {oc16 kV16 dc16 pm16 cd16 ct16 : Value} (a16 : PySem.W.nsIn K mainGlobals "read_integers" = some (some (.ref f16))) (l16 : K.lookup f16 = some ⟨oc16, od16, .func (PySem.W.fnOf "read_integers" "read_integers" (defArgs s_read_integers) (defBody s_read_integers) (defScope s_read_integers) .none kV16 dc16 pm16 an16 cd16 ct16), sl16⟩) (c16 : PySem.W.codeIn K cd16 "read_integers" = true) (k16 : PySem.W.keepIn K (.ref f16) = true)
    {f17 : Addr} {od17 an17 : Option Addr} {sl17 : Array (Option Value)} {oc17 kV17 dc17 pm17 cd17 ct17 : Value} (a17 : PySem.W.nsIn K mainGlobals "read_cell_name" = some (some (.ref f17))) (l17 : K.lookup f17 = some ⟨oc17, od17, .func (PySem.W.fnOf "read_cell_name" "read_cell_name" (defArgs s_read_cell_name) (defBody s_read_cell_name) (defScope s_read_cell_name) .none kV17 dc17 pm17 an17 cd17 ct17), sl17⟩) (c17 : PySem.W.codeIn K cd17 "read_cell_name" = true) (k17 : PySem.W.keepIn K (.ref f17) = true)
    {f18 : Addr} {od18 an18 : Option Addr} {sl18 : Array (Option Value)} {oc18 kV18 dc18 pm18 cd18 ct18 : Value} (a18 : PySem.W.nsIn K mainGlobals "read_shape" = some (some (.ref f18))) (l18 : K.lookup f18 = some ⟨oc18, od18, .func (PySem.W.fnOf "read_shape" "read_shape" (defArgs s_read_shape) (defBody s_read_shape) (defScope s_read_shape) .none kV18 dc18 pm18 an18 cd18 ct18), sl18⟩) (c18 : PySem.W.codeIn K cd18 "read_shape" = true) (k18 : PySem.W.keepIn K (.ref f18) = true)
    {f19 : Addr} {od19 an19 : Option Addr} {sl19 : Array (Option Value)} {oc19 kV19 dc19 pm19 cd19 ct19 : Value} (a19 : PySem.W.nsIn K mainGlobals "read_label" = some (some (.ref f19))) (l19 : K.lookup f19 = some ⟨oc19, od19, .func (PySem.W.fnOf "read_label" "read_label" (defArgs s_read_label) (defBody s_read_label) (defScope s_read_label) .none kV19 dc19 pm19 an19 cd19 ct19), sl19⟩) (c19 : PySem.W.codeIn K cd19 "read_label" = true) (k19 : PySem.W.keepIn K (.ref f19) = true)
    {f20 : Addr} {od20 an20 : Option Addr} {sl20 : Array (Option Value)} {oc20 kV20 dc20 pm20 cd20 ct20 : Value} (a20 : PySem.W.nsIn K mainGlobals "read_placement" = some (some (.ref f20))) (l20 : K.lookup f20 = some ⟨oc20, od20, .func (PySem.W.fnOf "read_placement" "read_placement" (defArgs s_read_placement) (defBody s_read_placement) (defScope s_read_placement) .none kV20 dc20 pm20 an20 cd20 ct20), sl20⟩) (c20 : PySem.W.codeIn K cd20 "read_placement" = true) (k20 : PySem.W.keepIn K (.ref f20) = true)
    {f21 : Addr} {od21 an21 : Option Addr} {sl21 : Array (Option Value)} {oc21 kV21 dc21 pm21 cd21 ct21 : Value} (a21 : PySem.W.nsIn K mainGlobals "read_part" = some (some (.ref f21))) (l21 : K.lookup f21 = some ⟨oc21, od21, .func (PySem.W.fnOf "read_part" "read_part" (defArgs s_read_part_c) (defBody s_read_part_c) (defScope s_read_part_c) .none kV21 dc21 pm21 an21 cd21 ct21), sl21⟩) (c21 : PySem.W.codeIn K cd21 "read_part" = true) (k21 : PySem.W.keepIn K (.ref f21) = true)
    {f22 : Addr} {od22 an22 : Option Addr} {sl22 : Array (Option Value)} {oc22 kV22 dc22 pm22 cd22 ct22 : Value} (a22 : PySem.W.findIn K (.ref C_Draft) "__init__" = some (some (.ref f22))) (i22 : PySem.W.isFn K (.ref f22) = true) (l22 : K.lookup f22 = some ⟨oc22, od22, .func (PySem.W.fnOf "__init__" "Draft.__init__" (defArgs s_Draft_init) (defBody s_Draft_init) (defScope s_Draft_init) .none kV22 dc22 pm22 an22 cd22 ct22), sl22⟩) (c22 : PySem.W.codeIn K cd22 "Draft.__init__" = true) (k22 : PySem.W.keepIn K (.ref f22) = true)
    {f23 : Addr} {od23 an23 : Option Addr} {sl23 : Array (Option Value)} {oc23 kV23 dc23 pm23 cd23 ct23 : Value} (a23 : PySem.W.findIn K (.ref C_Draft) "fits" = some (some (.ref f23))) (i23 : PySem.W.isFn K (.ref f23) = true) (l23 : K.lookup f23 = some ⟨oc23, od23, .func (PySem.W.fnOf "fits" "Draft.fits" (defArgs s_Draft_fits_v) (defBody s_Draft_fits_v) (defScope s_Draft_fits_v) .none kV23 dc23 pm23 an23 cd23 ct23), sl23⟩) (c23 : PySem.W.codeIn K cd23 "Draft.fits" = true) (k23 : PySem.W.keepIn K (.ref f23) = true)
    {f24 : Addr} {od24 an24 : Option Addr} {sl24 : Array (Option Value)} {oc24 kV24 dc24 pm24 cd24 ct24 : Value} (a24 : PySem.W.findIn K (.ref C_Draft) "take" = some (some (.ref f24))) (i24 : PySem.W.isFn K (.ref f24) = true) (l24 : K.lookup f24 = some ⟨oc24, od24, .func (PySem.W.fnOf "take" "Draft.take" (defArgs s_Draft_take) (defBody s_Draft_take) (defScope s_Draft_take) .none kV24 dc24 pm24 an24 cd24 ct24), sl24⟩) (c24 : PySem.W.codeIn K cd24 "Draft.take" = true) (k24 : PySem.W.keepIn K (.ref f24) = true)
    {f25 : Addr} {od25 an25 : Option Addr} {sl25 : Array (Option Value)} {oc25 kV25 dc25 pm25 cd25 ct25 : Value} (a25 : PySem.W.findIn K (.ref C_Draft) "library" = some (some (.ref f25))) (i25 : PySem.W.isFn K (.ref f25) = true) (l25 : K.lookup f25 = some ⟨oc25, od25, .func (PySem.W.fnOf "library" "Draft.library" (defArgs s_Draft_library) (defBody s_Draft_library) (defScope s_Draft_library) .none kV25 dc25 pm25 an25 cd25 ct25), sl25⟩) (c25 : PySem.W.codeIn K cd25 "Draft.library" = true) (k25 : PySem.W.keepIn K (.ref f25) = true)
    {f26 : Addr} {od26 an26 : Option Addr} {sl26 : Array (Option Value)} {oc26 kV26 dc26 pm26 cd26 ct26 : Value} (a26 : PySem.W.findIn K (.ref C_Draft) "_complete" = some (some (.ref f26))) (i26 : PySem.W.isFn K (.ref f26) = true) (l26 : K.lookup f26 = some ⟨oc26, od26, .func (PySem.W.fnOf "_complete" "Draft._complete" (defArgs s_Draft_complete) (defBody s_Draft_complete) (defScope s_Draft_complete) .none kV26 dc26 pm26 an26 cd26 ct26), sl26⟩) (c26 : PySem.W.codeIn K cd26 "Draft._complete" = true) (k26 : PySem.W.keepIn K (.ref f26) = true)
    {f27 : Addr} {od27 an27 : Option Addr} {sl27 : Array (Option Value)} {oc27 kV27 dc27 pm27 cd27 ct27 : Value} (a27 : PySem.W.nsIn K mainGlobals "parse_library" = some (some (.ref f27))) (l27 : K.lookup f27 = some ⟨oc27, od27, .func (PySem.W.fnOf "parse_library" "parse_library" (defArgs s_parse_library) (defBody s_parse_library) (defScope s_parse_library) .none kV27 dc27 pm27 an27 cd27 ct27), sl27⟩) (c27 : PySem.W.codeIn K cd27 "parse_library" = true) (k27 : PySem.W.keepIn K (.ref f27) = true)
    {f28 : Addr} {od28 an28 : Option Addr} {sl28 : Array (Option Value)} {oc28 kV28 dc28 pm28 cd28 ct28 : Value} (a28 : PySem.W.nsIn K mainGlobals "_law_cell" = some (some (.ref f28))) (l28 : K.lookup f28 = some ⟨oc28, od28, .func (PySem.W.fnOf "_law_cell" "_law_cell" (defArgs s_law_cell) (defBody s_law_cell) (defScope s_law_cell) .none kV28 dc28 pm28 an28 cd28 ct28), sl28⟩) (c28 : PySem.W.codeIn K cd28 "_law_cell" = true) (k28 : PySem.W.keepIn K (.ref f28) = true)
    {f29 : Addr} {od29 an29 : Option Addr} {sl29 : Array (Option Value)} {oc29 kV29 dc29 pm29 cd29 ct29 : Value} (a29 : PySem.W.nsIn K mainGlobals "_law_draws" = some (some (.ref f29))) (l29 : K.lookup f29 = some ⟨oc29, od29, .func (PySem.W.fnOf "_law_draws" "_law_draws" (defArgs s_law_draws) (defBody s_law_draws) (defScope s_law_draws) .none kV29 dc29 pm29 an29 cd29 ct29), sl29⟩) (c29 : PySem.W.codeIn K cd29 "_law_draws" = true) (k29 : PySem.W.keepIn K (.ref f29) = true)
    {f30 : Addr} {od30 an30 : Option Addr} {sl30 : Array (Option Value)} {oc30 kV30 dc30 pm30 cd30 ct30 : Value} (a30 : PySem.W.nsIn K mainGlobals "_law_box_of" = some (some (.ref f30))) (l30 : K.lookup f30 = some ⟨oc30, od30, .func (PySem.W.fnOf "_law_box_of" "_law_box_of" (defArgs s_law_box_of) (defBody s_law_box_of) (defScope s_law_box_of) .none kV30 dc30 pm30 an30 cd30 ct30), sl30⟩) (c30 : PySem.W.codeIn K cd30 "_law_box_of" = true) (k30 : PySem.W.keepIn K (.ref f30) = true)
    {f31 : Addr} {od31 an31 : Option Addr} {sl31 : Array (Option Value)} {oc31 kV31 dc31 pm31 cd31 ct31 : Value} (a31 : PySem.W.nsIn K mainGlobals "_law_name" = some (some (.ref f31))) (l31 : K.lookup f31 = some ⟨oc31, od31, .func (PySem.W.fnOf "_law_name" "_law_name" (defArgs s_law_name) (defBody s_law_name) (defScope s_law_name) .none kV31 dc31 pm31 an31 cd31 ct31), sl31⟩) (c31 : PySem.W.codeIn K cd31 "_law_name" = true) (k31 : PySem.W.keepIn K (.ref f31) = true)
    {f32 : Addr} {od32 an32 : Option Addr} {sl32 : Array (Option Value)} {oc32 kV32 dc32 pm32 cd32 ct32 : Value} (a32 : PySem.W.nsIn K mainGlobals "_law_qlayer" = some (some (.ref f32))) (l32 : K.lookup f32 = some ⟨oc32, od32, .func (PySem.W.fnOf "_law_qlayer" "_law_qlayer" (defArgs s_law_qlayer) (defBody s_law_qlayer) (defScope s_law_qlayer) .none kV32 dc32 pm32 an32 cd32 ct32), sl32⟩) (c32 : PySem.W.codeIn K cd32 "_law_qlayer" = true) (k32 : PySem.W.keepIn K (.ref f32) = true)
    {f33 : Addr} {od33 an33 : Option Addr} {sl33 : Array (Option Value)} {oc33 kV33 dc33 pm33 cd33 ct33 : Value} (a33 : PySem.W.nsIn K mainGlobals "_law_qshapes" = some (some (.ref f33))) (l33 : K.lookup f33 = some ⟨oc33, od33, .func (PySem.W.fnOf "_law_qshapes" "_law_qshapes" (defArgs s_law_qshapes) (defBody s_law_qshapes) (defScope s_law_qshapes) .none kV33 dc33 pm33 an33 cd33 ct33), sl33⟩) (c33 : PySem.W.codeIn K cd33 "_law_qshapes" = true) (k33 : PySem.W.keepIn K (.ref f33) = true)
    {f34 : Addr} {od34 an34 : Option Addr} {sl34 : Array (Option Value)} {oc34 kV34 dc34 pm34 cd34 ct34 : Value} (a34 : PySem.W.nsIn K mainGlobals "_law_qlabels" = some (some (.ref f34))) (l34 : K.lookup f34 = some ⟨oc34, od34, .func (PySem.W.fnOf "_law_qlabels" "_law_qlabels" (defArgs s_law_qlabels) (defBody s_law_qlabels) (defScope s_law_qlabels) .none kV34 dc34 pm34 an34 cd34 ct34), sl34⟩) (c34 : PySem.W.codeIn K cd34 "_law_qlabels" = true) (k34 : PySem.W.keepIn K (.ref f34) = true)
    {f35 : Addr} {od35 an35 : Option Addr} {sl35 : Array (Option Value)} {oc35 kV35 dc35 pm35 cd35 ct35 : Value} (a35 : PySem.W.nsIn K mainGlobals "_law_qcells" = some (some (.ref f35))) (l35 : K.lookup f35 = some ⟨oc35, od35, .func (PySem.W.fnOf "_law_qcells" "_law_qcells" (defArgs s_law_qcells) (defBody s_law_qcells) (defScope s_law_qcells) .none kV35 dc35 pm35 an35 cd35 ct35), sl35⟩) (c35 : PySem.W.codeIn K cd35 "_law_qcells" = true) (k35 : PySem.W.keepIn K (.ref f35) = true)
    {f36 : Addr} {od36 an36 : Option Addr} {sl36 : Array (Option Value)} {oc36 kV36 dc36 pm36 cd36 ct36 : Value} (a36 : PySem.W.nsIn K mainGlobals "_law_qtext" = some (some (.ref f36))) (l36 : K.lookup f36 = some ⟨oc36, od36, .func (PySem.W.fnOf "_law_qtext" "_law_qtext" (defArgs s_law_qtext) (defBody s_law_qtext) (defScope s_law_qtext) .none kV36 dc36 pm36 an36 cd36 ct36), sl36⟩) (c36 : PySem.W.codeIn K cd36 "_law_qtext" = true) (k36 : PySem.W.keepIn K (.ref f36) = true)
    {f37 : Addr} {od37 an37 : Option Addr} {sl37 : Array (Option Value)} {oc37 kV37 dc37 pm37 cd37 ct37 : Value} (a37 : PySem.W.nsIn K mainGlobals "_law_qbad_integer" = some (some (.ref f37))) (l37 : K.lookup f37 = some ⟨oc37, od37, .func (PySem.W.fnOf "_law_qbad_integer" "_law_qbad_integer" (defArgs s_law_qbad_integer) (defBody s_law_qbad_integer) (defScope s_law_qbad_integer) .none kV37 dc37 pm37 an37 cd37 ct37), sl37⟩) (c37 : PySem.W.codeIn K cd37 "_law_qbad_integer" = true) (k37 : PySem.W.keepIn K (.ref f37) = true)
    {f38 : Addr} {od38 an38 : Option Addr} {sl38 : Array (Option Value)} {oc38 kV38 dc38 pm38 cd38 ct38 : Value} (a38 : PySem.W.nsIn K mainGlobals "_law_qbad_name" = some (some (.ref f38))) (l38 : K.lookup f38 = some ⟨oc38, od38, .func (PySem.W.fnOf "_law_qbad_name" "_law_qbad_name" (defArgs s_law_qbad_name) (defBody s_law_qbad_name) (defScope s_law_qbad_name) .none kV38 dc38 pm38 an38 cd38 ct38), sl38⟩) (c38 : PySem.W.codeIn K cd38 "_law_qbad_name" = true) (k38 : PySem.W.keepIn K (.ref f38) = true)
    {f39 : Addr} {od39 an39 : Option Addr} {sl39 : Array (Option Value)} {oc39 kV39 dc39 pm39 cd39 ct39 : Value} (a39 : PySem.W.nsIn K mainGlobals "_law_line" = some (some (.ref f39))) (l39 : K.lookup f39 = some ⟨oc39, od39, .func (PySem.W.fnOf "_law_line" "_law_line" (defArgs s_law_line) (defBody s_law_line) (defScope s_law_line) .none kV39 dc39 pm39 an39 cd39 ct39), sl39⟩) (c39 : PySem.W.codeIn K cd39 "_law_line" = true) (k39 : PySem.W.keepIn K (.ref f39) = true)
    {f40 : Addr} {od40 an40 : Option Addr} {sl40 : Array (Option Value)} {oc40 kV40 dc40 pm40 cd40 ct40 : Value} (a40 : PySem.W.nsIn K mainGlobals "_law_wrong_line" = some (some (.ref f40))) (l40 : K.lookup f40 = some ⟨oc40, od40, .func (PySem.W.fnOf "_law_wrong_line" "_law_wrong_line" (defArgs s_law_wrong_line) (defBody s_law_wrong_line) (defScope s_law_wrong_line) .none kV40 dc40 pm40 an40 cd40 ct40), sl40⟩) (c40 : PySem.W.codeIn K cd40 "_law_wrong_line" = true) (k40 : PySem.W.keepIn K (.ref f40) = true)
    {f41 : Addr} {od41 an41 : Option Addr} {sl41 : Array (Option Value)} {oc41 kV41 dc41 pm41 cd41 ct41 : Value} (a41 : PySem.W.nsIn K mainGlobals "_law_wrong_place" = some (some (.ref f41))) (l41 : K.lookup f41 = some ⟨oc41, od41, .func (PySem.W.fnOf "_law_wrong_place" "_law_wrong_place" (defArgs s_law_wrong_place) (defBody s_law_wrong_place) (defScope s_law_wrong_place) .none kV41 dc41 pm41 an41 cd41 ct41), sl41⟩) (c41 : PySem.W.codeIn K cd41 "_law_wrong_place" = true) (k41 : PySem.W.keepIn K (.ref f41) = true)
    {f42 : Addr} {od42 an42 : Option Addr} {sl42 : Array (Option Value)} {oc42 kV42 dc42 pm42 cd42 ct42 : Value} (a42 : PySem.W.nsIn K mainGlobals "law" = some (some (.ref f42))) (l42 : K.lookup f42 = some ⟨oc42, od42, .func (PySem.W.fnOf "law" "law" (defArgs s_law) (defBody s_law) (defScope s_law) .none kV42 dc42 pm42 an42 cd42 ct42), sl42⟩) (c42 : PySem.W.codeIn K cd42 "law" = true) (k42 : PySem.W.keepIn K (.ref f42) = true)
    (z_all : PySem.W.nsIn K mainGlobals "all" = some none)
    (z_enumerate : PySem.W.nsIn K mainGlobals "enumerate" = some none)
    (z_int : PySem.W.nsIn K mainGlobals "int" = some none)
    (z_isinstance : PySem.W.nsIn K mainGlobals "isinstance" = some none)
    (z_len : PySem.W.nsIn K mainGlobals "len" = some none)
    (z_list : PySem.W.nsIn K mainGlobals "list" = some none)
    (z_max : PySem.W.nsIn K mainGlobals "max" = some none)
    (z_min : PySem.W.nsIn K mainGlobals "min" = some none)
    (z_range : PySem.W.nsIn K mainGlobals "range" = some none)
    (z_str : PySem.W.nsIn K mainGlobals "str" = some none)
    (z_sum : PySem.W.nsIn K mainGlobals "sum" = some none)
    (z_tuple : PySem.W.nsIn K mainGlobals "tuple" = some none)
    {u_LABEL_LAYERS : Value} (y_LABEL_LAYERS : PySem.W.nsIn K mainGlobals "LABEL_LAYERS" = some (some u_LABEL_LAYERS)) (w_LABEL_LAYERS : KD K (.tup [.str "active", .str "poly", .str "metal", .str "top"]) u_LABEL_LAYERS)
    {u_LAYERS : Value} (y_LAYERS : PySem.W.nsIn K mainGlobals "LAYERS" = some (some u_LAYERS)) (w_LAYERS : KD K (.tup [.str "well", .str "active", .str "poly", .str "contact", .str "metal", .str "via", .str "top"]) u_LAYERS)
    {u_MOST_CELLS : Value} (y_MOST_CELLS : PySem.W.nsIn K mainGlobals "MOST_CELLS" = some (some u_MOST_CELLS)) (w_MOST_CELLS : KD K (.int 60) u_MOST_CELLS)
    {u_MOST_CHARACTERS : Value} (y_MOST_CHARACTERS : PySem.W.nsIn K mainGlobals "MOST_CHARACTERS" = some (some u_MOST_CHARACTERS)) (w_MOST_CHARACTERS : KD K (.int 12) u_MOST_CHARACTERS)
    {u_MOST_COPIES : Value} (y_MOST_COPIES : PySem.W.nsIn K mainGlobals "MOST_COPIES" = some (some u_MOST_COPIES)) (w_MOST_COPIES : KD K (.int 100) u_MOST_COPIES)
    {u_MOST_DIGITS : Value} (y_MOST_DIGITS : PySem.W.nsIn K mainGlobals "MOST_DIGITS" = some (some u_MOST_DIGITS)) (w_MOST_DIGITS : KD K (.int 30) u_MOST_DIGITS)
    {u_TURNS : Value} (y_TURNS : PySem.W.nsIn K mainGlobals "TURNS" = some (some u_TURNS)) (w_TURNS : KD K (.tup turnsD) u_TURNS)
    {p_READERS : Addr} {es_READERS : Array DictEntry} {n_READERS : Nat} (a_READERS : PySem.W.nsIn K mainGlobals "READERS" = some (some (.ref p_READERS))) (l_READERS : K.lookup p_READERS = some ⟨.type "dict", none, .dict es_READERS n_READERS, #[]⟩) (q_READERS : PySem.W.KeysLit w.params es_READERS.toList)
    (lo_READERS : (p_READERS == sysModules) = false)
    (v0_READERS : PySem.W.nsIn K p_READERS "cell" = some (some (.ref f17)))
    (v1_READERS : PySem.W.nsIn K p_READERS "shape" = some (some (.ref f18)))
    (v2_READERS : PySem.W.nsIn K p_READERS "label" = some (some (.ref f19)))
    (v3_READERS : PySem.W.nsIn K p_READERS "place" = some (some (.ref f20)))
    (vn0_READERS : PySem.W.nsIn K p_READERS "" = some none)
    (vn1_READERS : PySem.W.nsIn K p_READERS "cells" = some none)
    (vn2_READERS : PySem.W.nsIn K p_READERS "Shape" = some none)
    (vn3_READERS : PySem.W.nsIn K p_READERS "#" = some none)
    (vn4_READERS : PySem.W.nsIn K p_READERS "library" = some none)
    {p_WORD_COUNTS : Addr} {es_WORD_COUNTS : Array DictEntry} {n_WORD_COUNTS : Nat} (a_WORD_COUNTS : PySem.W.nsIn K mainGlobals "WORD_COUNTS" = some (some (.ref p_WORD_COUNTS))) (l_WORD_COUNTS : K.lookup p_WORD_COUNTS = some ⟨.type "dict", none, .dict es_WORD_COUNTS n_WORD_COUNTS, #[]⟩) (q_WORD_COUNTS : PySem.W.KeysLit w.params es_WORD_COUNTS.toList)
    {u0_WORD_COUNTS : Value} (v0_WORD_COUNTS : PySem.W.nsIn K p_WORD_COUNTS "cell" = some (some u0_WORD_COUNTS)) (d0_WORD_COUNTS : KD K (.int 2) u0_WORD_COUNTS)
    {u1_WORD_COUNTS : Value} (v1_WORD_COUNTS : PySem.W.nsIn K p_WORD_COUNTS "shape" = some (some u1_WORD_COUNTS)) (d1_WORD_COUNTS : KD K (.int 6) u1_WORD_COUNTS)
    {u2_WORD_COUNTS : Value} (v2_WORD_COUNTS : PySem.W.nsIn K p_WORD_COUNTS "label" = some (some u2_WORD_COUNTS)) (d2_WORD_COUNTS : KD K (.int 5) u2_WORD_COUNTS)
    {u3_WORD_COUNTS : Value} (v3_WORD_COUNTS : PySem.W.nsIn K p_WORD_COUNTS "place" = some (some u3_WORD_COUNTS)) (d3_WORD_COUNTS : KD K (.int 9) u3_WORD_COUNTS)
    {tp_LINE_ORDER : Addr} {ti_LINE_ORDER : Array Value} {tn_LINE_ORDER : Nat} {ts_LINE_ORDER : Array (Option Value)} (ta_LINE_ORDER : PySem.W.nsIn K mainGlobals "LINE_ORDER" = some (some (.ref tp_LINE_ORDER))) (tl_LINE_ORDER : K.lookup tp_LINE_ORDER = some ⟨.type "tuple", none, .seq ti_LINE_ORDER tn_LINE_ORDER, ts_LINE_ORDER⟩) (tz_LINE_ORDER : ti_LINE_ORDER.size ≤ sizeLine) (tv_LINE_ORDER : Vals ((loT : List Str).map V.str) ti_LINE_ORDER.toList)
    {E_InvalidText : Addr} (ea_InvalidText : PySem.W.nsIn K mainGlobals "InvalidText" = some (some (.ref E_InvalidText)))
    (es_InvalidText : PySem.W.subIn K (.ref E_InvalidText) (.type "BaseException") = some true)
    (ed_InvalidText : PySem.W.hasDictIn K E_InvalidText = true)
    (et_InvalidText : PySem.W.typeIn K (.ref E_InvalidText) = some (.type "type"))
    (eg_InvalidText : PySem.W.findIn K (.ref E_InvalidText) "__getattribute__" = some (some (.builtin "BaseException.__getattribute__")))
    (en_InvalidText : PySem.W.findIn K (.ref E_InvalidText) "__getattr__" = some none)
    (ec_InvalidText : PySem.W.findIn K (.ref E_InvalidText) "__class__" = some (some (.builtin "object.__class__")))
    (ep_InvalidText : PySem.W.specialIn K (.builtin "object.__class__") "__get__" = some (some (.builtin "getset_descriptor.__get__")))
    (ex_InvalidText : PySem.W.takesIn K (.builtin "object.__class__") = some true)
    (em_InvalidText : PySem.W.mroIn K E_InvalidText (.type "object") = some true)
    {E_ReticleError : Addr} (ea_ReticleError : PySem.W.nsIn K mainGlobals "ReticleError" = some (some (.ref E_ReticleError)))
    (es_ReticleError : PySem.W.subIn K (.ref E_ReticleError) (.type "BaseException") = some true)
    (ed_ReticleError : PySem.W.hasDictIn K E_ReticleError = true)
    (et_ReticleError : PySem.W.typeIn K (.ref E_ReticleError) = some (.type "type"))
    (e4_m1 : PySem.W.subIn K (.ref E_InvalidText) (.ref E_ReticleError) = some true)
    (xga_InvalidText : PySem.W.findIn K (.ref E_InvalidText) "__getattribute__" = some (some (.builtin "BaseException.__getattribute__")))
    (xgg_InvalidText : PySem.W.findIn K (.ref E_InvalidText) "__getattr__" = some none)
    (xno0_InvalidText : PySem.W.findIn K (.ref E_InvalidText) "line" = some none)
    {eF_InvalidText eK_InvalidText eO_InvalidText : Addr} {edd_InvalidText : Option Addr} {ecd_InvalidText : ClassData} {esl_InvalidText : Array (Option Value)} {eoc_InvalidText ekV_InvalidText edoc_InvalidText epm_InvalidText ect_InvalidText ecl_InvalidText eccl_InvalidText : Value} {ean_InvalidText eod_InvalidText ecld_InvalidText ecdd_InvalidText : Option Addr} {eosl_InvalidText ecsl_InvalidText eccs_InvalidText : Array (Option Value)} {evs_InvalidText : Array Value} {efl_InvalidText : Str} {etf_InvalidText : Tok}
    (lcl_InvalidText : K.lookup E_InvalidText = some ⟨.type "type", edd_InvalidText, .cls ecd_InvalidText, esl_InvalidText⟩)
    (lox_InvalidText : oexD E_InvalidText ecd_InvalidText esl_InvalidText = true)
    (lsa_InvalidText : PySem.W.findIn K (.ref E_InvalidText) "__setattr__" = some (some (.builtin "object.__setattr__")))
    (lkp_InvalidText : PySem.W.keepIn K (.ref E_InvalidText) = true)
    (lin_InvalidText : PySem.W.findIn K (.ref E_InvalidText) "__init__" = some (some (.ref eF_InvalidText)))
    (lti_InvalidText : PySem.W.typeIn K (.ref eF_InvalidText) = some (.type "function"))
    (lfn_InvalidText : K.lookup eF_InvalidText = some ⟨eoc_InvalidText, eod_InvalidText, .func (PySem.W.fnX "__init__" "InvalidText.__init__" (defArgs s_E_InvalidText) (defBody s_E_InvalidText) (defScope s_E_InvalidText) [("__class__", eK_InvalidText)] .none ekV_InvalidText edoc_InvalidText epm_InvalidText ean_InvalidText (.ref eO_InvalidText) ect_InvalidText), eosl_InvalidText⟩)
    (lcd_InvalidText : PySem.W.codeIn K (.ref eO_InvalidText) "InvalidText.__init__" = true)
    (lce_InvalidText : K.lookup eK_InvalidText = some ⟨ecl_InvalidText, ecld_InvalidText, .cell (some (.ref E_InvalidText)), ecsl_InvalidText⟩)
    (lco_InvalidText : K.lookup eO_InvalidText = some ⟨eccl_InvalidText, ecdd_InvalidText, .fields evs_InvalidText, eccs_InvalidText⟩)
    (lvs_InvalidText : evs_InvalidText[2]? = some (.str efl_InvalidText etf_InvalidText))
    (lfi_InvalidText : ((l.prog.main.file : Str) == efl_InvalidText) = true)
    (lto_InvalidText : (l.prog.main.scope.names.lookup ("super" : Str)).isSome = false)
    (lsu_InvalidText : PySem.W.nsIn K mainGlobals "super" = some none)
    (lmr_InvalidText : PySem.W.mroIn K E_InvalidText (.ref E_InvalidText) = some true)
    (lop_InvalidText : PySem.W.nsIn K cStatics "thirdparty.any" = some none)
    (lii_InvalidText : PySem.W.ks_superIn K E_InvalidText E_InvalidText "__init__" = some (some (.builtin "ValueError.__init__")))
    (lve_InvalidText : PySem.W.subIn K (.ref E_InvalidText) (.type "ValueError") = some true)
    (lf1_InvalidText : PySem.W.findIn K (.ref E_InvalidText) "line" = some none)
    : ∃ fd : FuncData, (∀ (s : Shared) (v : Value), BindsTo s fd ⟨[v], []⟩ [("script", v)]) ∧ ∀ base : Heap, K.In base → base.Ns mainGlobals mg → FnOk l.prog w K mg base CX0 11 fa fd ["script"] (spR K RLaw) := by
  have e := hfa.symm.trans (PySem.W.mg_of X G a42)
  cases e
  have B : Bt mg := ⟨PySem.W.mg_none_of X G z_all, PySem.W.mg_none_of X G z_enumerate, PySem.W.mg_none_of X G z_int, PySem.W.mg_none_of X G z_isinstance, PySem.W.mg_none_of X G z_len, PySem.W.mg_none_of X G z_list, PySem.W.mg_none_of X G z_max, PySem.W.mg_none_of X G z_min, PySem.W.mg_none_of X G z_range, PySem.W.mg_none_of X G z_str, PySem.W.mg_none_of X G z_sum, PySem.W.mg_none_of X G z_tuple⟩
  have KC : Kt K mg := ⟨⟨⟨u_LABEL_LAYERS, PySem.W.mg_of X G y_LABEL_LAYERS, w_LABEL_LAYERS⟩⟩, ⟨⟨u_LAYERS, PySem.W.mg_of X G y_LAYERS, w_LAYERS⟩⟩, ⟨⟨u_MOST_CELLS, PySem.W.mg_of X G y_MOST_CELLS, w_MOST_CELLS⟩⟩, ⟨⟨u_MOST_CHARACTERS, PySem.W.mg_of X G y_MOST_CHARACTERS, w_MOST_CHARACTERS⟩⟩, ⟨⟨u_MOST_COPIES, PySem.W.mg_of X G y_MOST_COPIES, w_MOST_COPIES⟩⟩, ⟨⟨u_MOST_DIGITS, PySem.W.mg_of X G y_MOST_DIGITS, w_MOST_DIGITS⟩⟩, ⟨⟨u_TURNS, PySem.W.mg_of X G y_TURNS, w_TURNS⟩⟩⟩
  have KL : Lt K mg := ⟨⟨⟨C_Cell, aC_Cell, PySem.W.mg_of X G aC_Cell, ⟨⟨pg_Cell, hd_Cell, po_Cell, sa_Cell⟩, ha_Cell, hn_Cell, htk_Cell, hm_Cell, kit_self⟩, kc_Cell, (List.forall_mem_cons.mpr ⟨na0_Cell, (List.forall_mem_cons.mpr ⟨na1_Cell, (List.forall_mem_cons.mpr ⟨na2_Cell, (List.forall_mem_cons.mpr ⟨na3_Cell, fun _ h => absurd h (by simp)⟩)⟩)⟩)⟩)⟩⟩, ⟨⟨C_Library, aC_Library, PySem.W.mg_of X G aC_Library, ⟨⟨pg_Library, hd_Library, po_Library, sa_Library⟩, ha_Library, hn_Library, htk_Library, hm_Library, kit_self⟩, kc_Library, (List.forall_mem_cons.mpr ⟨na0_Library, (List.forall_mem_cons.mpr ⟨na1_Library, (List.forall_mem_cons.mpr ⟨na2_Library, (List.forall_mem_cons.mpr ⟨na3_Library, fun _ h => absurd h (by simp)⟩)⟩)⟩)⟩)⟩⟩, ⟨⟨C_Draft, aC_Draft, PySem.W.mg_of X G aC_Draft, ⟨⟨pg_Draft, hd_Draft, po_Draft, sa_Draft⟩, ha_Draft, hn_Draft, htk_Draft, hm_Draft, kit_self⟩, kc_Draft, (List.forall_mem_cons.mpr ⟨na0_Draft, (List.forall_mem_cons.mpr ⟨na1_Draft, (List.forall_mem_cons.mpr ⟨na2_Draft, (List.forall_mem_cons.mpr ⟨na3_Draft, fun _ h => absurd h (by simp)⟩)⟩)⟩)⟩)⟩⟩⟩
  have WD : Zdt K w mg := ⟨⟨(List.forall_mem_cons.mpr ⟨kdr_mk (PySem.W.mg_of X G a_READERS) l_READERS q_READERS v0_READERS (PySem.W.mg_of X G a17) lo_READERS, (List.forall_mem_cons.mpr ⟨kdr_mk (PySem.W.mg_of X G a_READERS) l_READERS q_READERS v1_READERS (PySem.W.mg_of X G a18) lo_READERS, (List.forall_mem_cons.mpr ⟨kdr_mk (PySem.W.mg_of X G a_READERS) l_READERS q_READERS v2_READERS (PySem.W.mg_of X G a19) lo_READERS, (List.forall_mem_cons.mpr ⟨kdr_mk (PySem.W.mg_of X G a_READERS) l_READERS q_READERS v3_READERS (PySem.W.mg_of X G a20) lo_READERS, fun _ h => absurd h (by simp)⟩)⟩)⟩)⟩)⟩, ⟨(List.forall_mem_cons.mpr ⟨kdn_mk (PySem.W.mg_of X G a_READERS) l_READERS q_READERS vn0_READERS lo_READERS, (List.forall_mem_cons.mpr ⟨kdn_mk (PySem.W.mg_of X G a_READERS) l_READERS q_READERS vn1_READERS lo_READERS, (List.forall_mem_cons.mpr ⟨kdn_mk (PySem.W.mg_of X G a_READERS) l_READERS q_READERS vn2_READERS lo_READERS, (List.forall_mem_cons.mpr ⟨kdn_mk (PySem.W.mg_of X G a_READERS) l_READERS q_READERS vn3_READERS lo_READERS, (List.forall_mem_cons.mpr ⟨kdn_mk (PySem.W.mg_of X G a_READERS) l_READERS q_READERS vn4_READERS lo_READERS, fun _ h => absurd h (by simp)⟩)⟩)⟩)⟩)⟩)⟩, ⟨(List.forall_mem_cons.mpr ⟨kdl_mk (PySem.W.mg_of X G a_WORD_COUNTS) l_WORD_COUNTS q_WORD_COUNTS v0_WORD_COUNTS d0_WORD_COUNTS, (List.forall_mem_cons.mpr ⟨kdl_mk (PySem.W.mg_of X G a_WORD_COUNTS) l_WORD_COUNTS q_WORD_COUNTS v1_WORD_COUNTS d1_WORD_COUNTS, (List.forall_mem_cons.mpr ⟨kdl_mk (PySem.W.mg_of X G a_WORD_COUNTS) l_WORD_COUNTS q_WORD_COUNTS v2_WORD_COUNTS d2_WORD_COUNTS, (List.forall_mem_cons.mpr ⟨kdl_mk (PySem.W.mg_of X G a_WORD_COUNTS) l_WORD_COUNTS q_WORD_COUNTS v3_WORD_COUNTS d3_WORD_COUNTS, fun _ h => absurd h (by simp)⟩)⟩)⟩)⟩)⟩⟩
  have KT : Ktt K mg := ⟨kts_mk (PySem.W.mg_of X G ta_LINE_ORDER) tl_LINE_ORDER tz_LINE_ORDER tv_LINE_ORDER⟩
  have XF : Xt K mg := ⟨⟨⟨E_InvalidText, ea_InvalidText, ⟨eg_InvalidText, en_InvalidText, es_InvalidText, ed_InvalidText, ec_InvalidText, ep_InvalidText, ex_InvalidText, em_InvalidText⟩⟩⟩, ⟨⟨E_InvalidText, E_ReticleError, ea_InvalidText, PySem.W.mg_of X G ea_ReticleError, PySem.W.exm_ref es_ReticleError ed_ReticleError et_ReticleError e4_m1⟩⟩, ⟨⟨E_InvalidText, E_InvalidText, ea_InvalidText, PySem.W.mg_of X G ea_InvalidText, kit_self⟩⟩, ⟨⟨E_InvalidText, ea_InvalidText, ⟨xga_InvalidText, xgg_InvalidText, es_InvalidText, ed_InvalidText⟩, (List.forall_mem_cons.mpr ⟨xno0_InvalidText, fun _ h => absurd h (by simp)⟩)⟩⟩⟩
  have F0 := fun_mk (st := s_is_box) l0 c0 k0
  have b0 := F0.binds (ps := ["box"]) fun _ _ _ _ _ _ us hl => match us, hl with | [_], _ => rfl
  have F1 := fun_mk (st := s_is_move) l1 c1 k1
  have b1 := F1.binds (ps := ["move"]) fun _ _ _ _ _ _ us hl => match us, hl with | [_], _ => rfl
  have F2 := fun_mk (st := s_is_name) l2 c2 k2
  have b2 := F2.binds (ps := ["name"]) fun _ _ _ _ _ _ us hl => match us, hl with | [_], _ => rfl
  have F3 := fun_mk (st := s_is_shape) l3 c3 k3
  have b3 := F3.binds (ps := ["shape"]) fun _ _ _ _ _ _ us hl => match us, hl with | [_], _ => rfl
  have F4 := fun_mk (st := s_is_label) l4 c4 k4
  have b4 := F4.binds (ps := ["label"]) fun _ _ _ _ _ _ us hl => match us, hl with | [_], _ => rfl
  have F5 := fun_mk (st := s_is_placement) l5 c5 k5
  have b5 := F5.binds (ps := ["placement"]) fun _ _ _ _ _ _ us hl => match us, hl with | [_], _ => rfl
  have F6 := fun_mk (st := s_Cell_init) l6 c6 k6
  have b6 := F6.binds (ps := ["self", "name", "shapes", "labels", "placements"]) fun _ _ _ _ _ _ us hl => match us, hl with | [_, _, _, _, _], _ => rfl
  have F7 := fun_mk (st := s_placed_count) l7 c7 k7
  have b7 := F7.binds (ps := ["placements", "counts"]) fun _ _ _ _ _ _ us hl => match us, hl with | [_, _], _ => rfl
  have F8 := fun_mk (st := s_Library_init) l8 c8 k8
  have b8 := F8.binds (ps := ["self", "cells"]) fun _ _ _ _ _ _ us hl => match us, hl with | [_, _], _ => rfl
  have F9 := fun_mk (st := s_Library_append_cell) l9 c9 k9
  have b9 := F9.binds (ps := ["self", "cell"]) fun _ _ _ _ _ _ us hl => match us, hl with | [_, _], _ => rfl
  have F10 := fun_mk (st := s_Library_cell) l10 c10 k10
  have b10 := F10.binds (ps := ["self", "name"]) fun _ _ _ _ _ _ us hl => match us, hl with | [_, _], _ => rfl
  have F11 := fun_mk (st := s_Library_shape_count) l11 c11 k11
  have b11 := F11.binds (ps := ["self", "name"]) fun _ _ _ _ _ _ us hl => match us, hl with | [_, _], _ => rfl
  have F12 := fun_mk (st := s_Library_label_count) l12 c12 k12
  have b12 := F12.binds (ps := ["self", "name"]) fun _ _ _ _ _ _ us hl => match us, hl with | [_, _], _ => rfl
  have F13 := fun_mk (st := s_Library_depth) l13 c13 k13
  have b13 := F13.binds (ps := ["self", "name"]) fun _ _ _ _ _ _ us hl => match us, hl with | [_, _], _ => rfl
  have F14 := fun_mk (st := s_Library_known) l14 c14 k14
  have b14 := F14.binds (ps := ["self", "table", "name"]) fun _ _ _ _ _ _ us hl => match us, hl with | [_, _, _], _ => rfl
  have F15 := fun_mk (st := s_is_integer) l15 c15 k15
  have b15 := F15.binds (ps := ["word"]) fun _ _ _ _ _ _ us hl => match us, hl with | [_], _ => rfl
  have F16 := fun_mk (st := s_read_integers) l16 c16 k16
  have b16 := F16.binds (ps := ["words"]) fun _ _ _ _ _ _ us hl => match us, hl with | [_], _ => rfl
  have F17 := fun_mk (st := s_read_cell_name) l17 c17 k17
  have b17 := F17.binds (ps := ["words"]) fun _ _ _ _ _ _ us hl => match us, hl with | [_], _ => rfl
  have F18 := fun_mk (st := s_read_shape) l18 c18 k18
  have b18 := F18.binds (ps := ["words"]) fun _ _ _ _ _ _ us hl => match us, hl with | [_], _ => rfl
  have F19 := fun_mk (st := s_read_label) l19 c19 k19
  have b19 := F19.binds (ps := ["words"]) fun _ _ _ _ _ _ us hl => match us, hl with | [_], _ => rfl
  have F20 := fun_mk (st := s_read_placement) l20 c20 k20
  have b20 := F20.binds (ps := ["words"]) fun _ _ _ _ _ _ us hl => match us, hl with | [_], _ => rfl
  have F21 := fun_mk (st := s_read_part_c) l21 c21 k21
  have b21 := F21.binds (ps := ["line"]) fun _ _ _ _ _ _ us hl => match us, hl with | [_], _ => rfl
  have F22 := fun_mk (st := s_Draft_init) l22 c22 k22
  have b22 := F22.binds (ps := ["self"]) fun _ _ _ _ _ _ us hl => match us, hl with | [_], _ => rfl
  have F23 := fun_mk (st := s_Draft_fits_v) l23 c23 k23
  have b23 := F23.binds (ps := ["self", "word", "value"]) fun _ _ _ _ _ _ us hl => match us, hl with | [_, _, _], _ => rfl
  have F24 := fun_mk (st := s_Draft_take) l24 c24 k24
  have b24 := F24.binds (ps := ["self", "word", "value"]) fun _ _ _ _ _ _ us hl => match us, hl with | [_, _, _], _ => rfl
  have F25 := fun_mk (st := s_Draft_library) l25 c25 k25
  have b25 := F25.binds (ps := ["self"]) fun _ _ _ _ _ _ us hl => match us, hl with | [_], _ => rfl
  have F26 := fun_mk (st := s_Draft_complete) l26 c26 k26
  have b26 := F26.binds (ps := ["self"]) fun _ _ _ _ _ _ us hl => match us, hl with | [_], _ => rfl
  have F27 := fun_mk (st := s_parse_library) l27 c27 k27
  have b27 := F27.binds (ps := ["text"]) fun _ _ _ _ _ _ us hl => match us, hl with | [_], _ => rfl
  have F28 := fun_mk (st := s_law_cell) l28 c28 k28
  have b28 := F28.binds (ps := ["script", "k"]) fun _ _ _ _ _ _ us hl => match us, hl with | [_, _], _ => rfl
  have F29 := fun_mk (st := s_law_draws) l29 c29 k29
  have b29 := F29.binds (ps := ["cell", "count"]) fun _ _ _ _ _ _ us hl => match us, hl with | [_, _], _ => rfl
  have F30 := fun_mk (st := s_law_box_of) l30 c30 k30
  have b30 := F30.binds (ps := ["draw", "more"]) fun _ _ _ _ _ _ us hl => match us, hl with | [_, _], _ => rfl
  have F31 := fun_mk (st := s_law_name) l31 c31 k31
  have b31 := F31.binds (ps := ["draw"]) fun _ _ _ _ _ _ us hl => match us, hl with | [_], _ => rfl
  have F32 := fun_mk (st := s_law_qlayer) l32 c32 k32
  have b32 := F32.binds (ps := ["draw"]) fun _ _ _ _ _ _ us hl => match us, hl with | [_], _ => rfl
  have F33 := fun_mk (st := s_law_qshapes) l33 c33 k33
  have b33 := F33.binds (ps := ["cell", "most"]) fun _ _ _ _ _ _ us hl => match us, hl with | [_, _], _ => rfl
  have F34 := fun_mk (st := s_law_qlabels) l34 c34 k34
  have b34 := F34.binds (ps := ["cell", "most"]) fun _ _ _ _ _ _ us hl => match us, hl with | [_, _], _ => rfl
  have F35 := fun_mk (st := s_law_qcells) l35 c35 k35
  have b35 := F35.binds (ps := ["script", "first", "many"]) fun _ _ _ _ _ _ us hl => match us, hl with | [_, _, _], _ => rfl
  have F36 := fun_mk (st := s_law_qtext) l36 c36 k36
  have b36 := F36.binds (ps := ["rows"]) fun _ _ _ _ _ _ us hl => match us, hl with | [_], _ => rfl
  have F37 := fun_mk (st := s_law_qbad_integer) l37 c37 k37
  have b37 := F37.binds (ps := ["draw"]) fun _ _ _ _ _ _ us hl => match us, hl with | [_], _ => rfl
  have F38 := fun_mk (st := s_law_qbad_name) l38 c38 k38
  have b38 := F38.binds (ps := ["draw"]) fun _ _ _ _ _ _ us hl => match us, hl with | [_], _ => rfl
  have F39 := fun_mk (st := s_law_line) l39 c39 k39
  have b39 := F39.binds (ps := ["text"]) fun _ _ _ _ _ _ us hl => match us, hl with | [_], _ => rfl
  have F40 := fun_mk (st := s_law_wrong_line) l40 c40 k40
  have b40 := F40.binds (ps := ["draw", "name", "more"]) fun _ _ _ _ _ _ us hl => match us, hl with | [_, _, _], _ => rfl
  have F41 := fun_mk (st := s_law_wrong_place) l41 c41 k41
  have b41 := F41.binds (ps := ["draw", "more", "name"]) fun _ _ _ _ _ _ us hl => match us, hl with | [_, _, _], _ => rfl
  have F42 := fun_mk (st := s_law) l42 c42 k42
  refine ⟨PySem.W.fnOf "law" "law" (defArgs s_law) (defBody s_law) (defScope s_law) .none kV42 dc42 pm42 an42 cd42 ct42, fun s v => .of_eq rfl, fun base _ _ => ?_⟩
  have TE_InvalidText : L2.OexC K E_InvalidText := oex_mk lcl_InvalidText lox_InvalidText lsa_InvalidText es_InvalidText et_InvalidText lkp_InvalidText
  have SE_InvalidText : SupK l.prog K mg E_InvalidText eF_InvalidText eK_InvalidText eO_InvalidText (F_E_InvalidText eK_InvalidText eO_InvalidText) := ⟨⟨rfl, rfl⟩, ⟨eoc_InvalidText, eod_InvalidText, eosl_InvalidText, .none, ekV_InvalidText, edoc_InvalidText, epm_InvalidText, ean_InvalidText, ect_InvalidText, lfn_InvalidText⟩, lcd_InvalidText, ⟨ecl_InvalidText, ecld_InvalidText, ecsl_InvalidText, lce_InvalidText⟩, ⟨eccl_InvalidText, ecdd_InvalidText, eccs_InvalidText, evs_InvalidText, efl_InvalidText, etf_InvalidText, lco_InvalidText, lvs_InvalidText, lfi_InvalidText⟩, lto_InvalidText, ⟨_, rfl, rfl⟩, PySem.W.mg_none_of X G lsu_InvalidText, lmr_InvalidText, lop_InvalidText, lii_InvalidText, lve_InvalidText⟩
  have GE_InvalidText : FnEr l.prog w K mg base "InvalidText" ["line"] 1 R_E_InvalidText := ⟨⟨E_InvalidText, eF_InvalidText, _, ["self", "line"], ea_InvalidText, PySem.W.mg_of X G ea_InvalidText, TE_InvalidText, lin_InvalidText, lti_InvalidText, okE_InvalidText SE_InvalidText TE_InvalidText lf1_InvalidText lfn_InvalidText, Binds.all fun us hl => match us, hl with | [_, _], _ => rfl⟩⟩
  have G_is_box : Fn l.prog w K mg base "is_box" 1 R_is_box := fn_wrap (PySem.W.mg_of X G a0) b0 F0.kp (ok_is_box F0 B KC KL WD KT XF )
  have G_is_move : Fn l.prog w K mg base "is_move" 1 R_is_move := fn_wrap (PySem.W.mg_of X G a1) b1 F1.kp (ok_is_move F1 B KC KL WD KT XF )
  have G_is_name : Fn l.prog w K mg base "is_name" 1 R_is_name := fn_wrap (PySem.W.mg_of X G a2) b2 F2.kp (ok_is_name F2 B KC KL WD KT XF )
  have G_placed_count : Fn l.prog w K mg base "placed_count" 1 R_placed_count := fn_wrap (PySem.W.mg_of X G a7) b7 F7.kp (ok_placed_count F7 B KC KL WD KT XF )
  have G_Library_known : FnM l.prog w K mg base "Library" "_known" 1 R_Library_known := ⟨⟨C_Library, f14, _, _, aC_Library, ⟨pg_Library, hd_Library, po_Library, sa_Library⟩, ⟨a14, i14, k14⟩, ok_Library_known F14 B KC KL WD KT XF , b14⟩⟩
  have G_is_integer : Fn l.prog w K mg base "is_integer" 1 R_is_integer := fn_wrap (PySem.W.mg_of X G a15) b15 F15.kp (ok_is_integer F15 B KC KL WD KT XF )
  have G_Draft_init : FnIL l.prog w K mg base "Draft" 1 R_Draft_init := ⟨⟨C_Draft, f22, _, _, aC_Draft, PySem.W.mg_of X G aC_Draft, ⟨mk_Draft, a22, i22, kc_Draft⟩, ok_Draft_init F22 B KC KL WD KT XF , b22⟩⟩
  have G_law_cell : Fn l.prog w K mg base "_law_cell" 1 R_law_cell := fn_wrap (PySem.W.mg_of X G a28) b28 F28.kp (ok_law_cell F28 B KC KL WD KT XF )
  have G_law_draws : Fn l.prog w K mg base "_law_draws" 1 R_law_draws := fn_wrap (PySem.W.mg_of X G a29) b29 F29.kp (ok_law_draws F29 B KC KL WD KT XF )
  have G_law_box_of : Fn l.prog w K mg base "_law_box_of" 1 R_law_box_of := fn_wrap (PySem.W.mg_of X G a30) b30 F30.kp (ok_law_box_of F30 B KC KL WD KT XF )
  have G_law_name : Fn l.prog w K mg base "_law_name" 1 R_law_name := fn_wrap (PySem.W.mg_of X G a31) b31 F31.kp (ok_law_name F31 B KC KL WD KT XF )
  have G_law_qlayer : Fn l.prog w K mg base "_law_qlayer" 1 R_law_qlayer := fn_wrap (PySem.W.mg_of X G a32) b32 F32.kp (ok_law_qlayer F32 B KC KL WD KT XF )
  have G_law_qtext : Fn l.prog w K mg base "_law_qtext" 1 R_law_qtext := fn_wrap (PySem.W.mg_of X G a36) b36 F36.kp (ok_law_qtext F36 B KC KL WD KT XF )
  have G_law_qbad_integer : Fn l.prog w K mg base "_law_qbad_integer" 1 R_law_qbad_integer := fn_wrap (PySem.W.mg_of X G a37) b37 F37.kp (ok_law_qbad_integer F37 B KC KL WD KT XF )
  have G_law_qbad_name : Fn l.prog w K mg base "_law_qbad_name" 1 R_law_qbad_name := fn_wrap (PySem.W.mg_of X G a38) b38 F38.kp (ok_law_qbad_name F38 B KC KL WD KT XF )
  have G_is_shape : Fn l.prog w K mg base "is_shape" 2 R_is_shape := fn_wrap (PySem.W.mg_of X G a3) b3 F3.kp (ok_is_shape F3 B KC KL WD KT XF G_is_box)
  have G_is_label : Fn l.prog w K mg base "is_label" 2 R_is_label := fn_wrap (PySem.W.mg_of X G a4) b4 F4.kp (ok_is_label F4 B KC KL WD KT XF G_is_name)
  have G_is_placement : Fn l.prog w K mg base "is_placement" 2 R_is_placement := fn_wrap (PySem.W.mg_of X G a5) b5 F5.kp (ok_is_placement F5 B KC KL WD KT XF G_is_move G_is_name)
  have G_Library_append_cell : FnML l.prog w K mg base "Library" "_append_cell" 2 R_Library_append_cell := ⟨⟨C_Library, f9, _, _, aC_Library, ⟨pg_Library, hd_Library, po_Library, sa_Library⟩, ⟨a9, i9, k9⟩, ok_Library_append_cell F9 B KC KL WD KT XF G_placed_count, b9⟩⟩
  have G_Library_cell : FnM l.prog w K mg base "Library" "cell" 2 R_Library_cell := ⟨⟨C_Library, f10, _, _, aC_Library, ⟨pg_Library, hd_Library, po_Library, sa_Library⟩, ⟨a10, i10, k10⟩, ok_Library_cell F10 B KC KL WD KT XF G_Library_known, b10⟩⟩
  have G_Library_shape_count : FnM l.prog w K mg base "Library" "shape_count" 2 R_Library_shape_count := ⟨⟨C_Library, f11, _, _, aC_Library, ⟨pg_Library, hd_Library, po_Library, sa_Library⟩, ⟨a11, i11, k11⟩, ok_Library_shape_count F11 B KC KL WD KT XF G_Library_known, b11⟩⟩
  have G_Library_label_count : FnM l.prog w K mg base "Library" "label_count" 2 R_Library_label_count := ⟨⟨C_Library, f12, _, _, aC_Library, ⟨pg_Library, hd_Library, po_Library, sa_Library⟩, ⟨a12, i12, k12⟩, ok_Library_label_count F12 B KC KL WD KT XF G_Library_known, b12⟩⟩
  have G_Library_depth : FnM l.prog w K mg base "Library" "depth" 2 R_Library_depth := ⟨⟨C_Library, f13, _, _, aC_Library, ⟨pg_Library, hd_Library, po_Library, sa_Library⟩, ⟨a13, i13, k13⟩, ok_Library_depth F13 B KC KL WD KT XF G_Library_known, b13⟩⟩
  have G_read_integers : Fn l.prog w K mg base "read_integers" 2 R_read_integers := fn_wrap (PySem.W.mg_of X G a16) b16 F16.kp (ok_read_integers F16 B KC KL WD KT XF G_is_integer)
  have G_read_cell_name : Fn l.prog w K mg base "read_cell_name" 2 R_read_cell_name := fn_wrap (PySem.W.mg_of X G a17) b17 F17.kp (ok_read_cell_name F17 B KC KL WD KT XF G_is_name)
  have G_Draft_fits_v : FnML l.prog w K mg base "Draft" "fits" 1 R_Draft_fits_v := ⟨⟨C_Draft, f23, _, _, aC_Draft, ⟨pg_Draft, hd_Draft, po_Draft, sa_Draft⟩, ⟨a23, i23, k23⟩, ok_Draft_fits_v F23 B KC KL WD KT XF , b23⟩⟩
  have G_Draft_fits_x : FnML l.prog w K mg base "Draft" "fits" 2 R_Draft_fits_x := ⟨⟨C_Draft, f23, _, _, aC_Draft, ⟨pg_Draft, hd_Draft, po_Draft, sa_Draft⟩, ⟨a23, i23, k23⟩, ok_Draft_fits_x F23 B KC KL WD KT XF , b23⟩⟩
  have G_law_qshapes : Fn l.prog w K mg base "_law_qshapes" 2 R_law_qshapes := fn_wrap (PySem.W.mg_of X G a33) b33 F33.kp (ok_law_qshapes F33 B KC KL WD KT XF G_law_box_of G_law_draws G_law_qlayer)
  have G_law_qlabels : Fn l.prog w K mg base "_law_qlabels" 2 R_law_qlabels := fn_wrap (PySem.W.mg_of X G a34) b34 F34.kp (ok_law_qlabels F34 B KC KL WD KT XF G_law_draws G_law_name)
  have G_law_wrong_line : Fn l.prog w K mg base "_law_wrong_line" 2 R_law_wrong_line := fn_wrap (PySem.W.mg_of X G a40) b40 F40.kp (ok_law_wrong_line F40 B KC KL WD KT XF G_law_qbad_integer G_law_qbad_name)
  have G_law_wrong_place : Fn l.prog w K mg base "_law_wrong_place" 2 R_law_wrong_place := fn_wrap (PySem.W.mg_of X G a41) b41 F41.kp (ok_law_wrong_place F41 B KC KL WD KT XF G_law_qbad_integer)
  have G_Cell_init : FnI l.prog w K mg base "Cell" 3 R_Cell_init := ⟨⟨C_Cell, f6, _, _, aC_Cell, PySem.W.mg_of X G aC_Cell, ⟨mk_Cell, a6, i6, kc_Cell⟩, ok_Cell_init F6 B KC KL WD KT XF G_is_label G_is_name G_is_placement G_is_shape, b6⟩⟩
  have G_Library_init : FnI l.prog w K mg base "Library" 3 R_Library_init := ⟨⟨C_Library, f8, _, _, aC_Library, PySem.W.mg_of X G aC_Library, ⟨mk_Library, a8, i8, kc_Library⟩, ok_Library_init F8 B KC KL WD KT XF G_Library_append_cell, b8⟩⟩
  have G_read_shape : Fn l.prog w K mg base "read_shape" 3 R_read_shape := fn_wrap (PySem.W.mg_of X G a18) b18 F18.kp (ok_read_shape F18 B KC KL WD KT XF G_is_shape G_read_integers)
  have G_read_label : Fn l.prog w K mg base "read_label" 3 R_read_label := fn_wrap (PySem.W.mg_of X G a19) b19 F19.kp (ok_read_label F19 B KC KL WD KT XF G_is_label G_read_integers)
  have G_read_placement : Fn l.prog w K mg base "read_placement" 3 R_read_placement := fn_wrap (PySem.W.mg_of X G a20) b20 F20.kp (ok_read_placement F20 B KC KL WD KT XF G_is_placement G_read_integers)
  have G_law_qcells : Fn l.prog w K mg base "_law_qcells" 3 R_law_qcells := fn_wrap (PySem.W.mg_of X G a35) b35 F35.kp (ok_law_qcells F35 B KC KL WD KT XF G_law_cell G_law_draws G_law_name G_law_qlabels G_law_qshapes)
  have G_Draft_complete : FnML l.prog w K mg base "Draft" "_complete" 5 R_Draft_complete := ⟨⟨C_Draft, f26, _, _, aC_Draft, ⟨pg_Draft, hd_Draft, po_Draft, sa_Draft⟩, ⟨a26, i26, k26⟩, ok_Draft_complete F26 B KC KL WD KT XF G_Cell_init, b26⟩⟩
  have G_Draft_take : FnML l.prog w K mg base "Draft" "take" 6 R_Draft_take := ⟨⟨C_Draft, f24, _, _, aC_Draft, ⟨pg_Draft, hd_Draft, po_Draft, sa_Draft⟩, ⟨a24, i24, k24⟩, ok_Draft_take F24 B KC KL WD KT XF G_Draft_complete, b24⟩⟩
  have G_Draft_library : FnML l.prog w K mg base "Draft" "library" 6 R_Draft_library := ⟨⟨C_Draft, f25, _, _, aC_Draft, ⟨pg_Draft, hd_Draft, po_Draft, sa_Draft⟩, ⟨a25, i25, k25⟩, ok_Draft_library F25 B KC KL WD KT XF G_Draft_complete G_Library_init, b25⟩⟩
  have G_read_part_c : Fn l.prog w K mg base "read_part" 4 R_read_part_c := fn_wrap (PySem.W.mg_of X G a21) b21 F21.kp (ok_read_part_c F21 B KC KL WD KT XF G_read_cell_name)
  have G_read_part_s : Fn l.prog w K mg base "read_part" 5 R_read_part_s := fn_wrap (PySem.W.mg_of X G a21) b21 F21.kp (ok_read_part_s F21 B KC KL WD KT XF G_read_shape)
  have G_read_part_l : Fn l.prog w K mg base "read_part" 6 R_read_part_l := fn_wrap (PySem.W.mg_of X G a21) b21 F21.kp (ok_read_part_l F21 B KC KL WD KT XF G_read_label)
  have G_read_part_p : Fn l.prog w K mg base "read_part" 7 R_read_part_p := fn_wrap (PySem.W.mg_of X G a21) b21 F21.kp (ok_read_part_p F21 B KC KL WD KT XF G_read_placement)
  have G_read_part_x : Fn l.prog w K mg base "read_part" 8 R_read_part_x := fn_wrap (PySem.W.mg_of X G a21) b21 F21.kp (ok_read_part_x F21 B KC KL WD KT XF G_read_cell_name G_read_label G_read_placement G_read_shape)
  have GX_parse_library : FnXG l.prog w K mg base "parse_library" 9 RX_parse_library := ⟨⟨_, _, _, okX_parse_library F27 B KC KL WD KT XF G_Draft_init G_Draft_fits_v G_Draft_fits_x G_Draft_take G_read_part_c G_read_part_l G_read_part_p G_read_part_s G_read_part_x GE_InvalidText, PySem.W.mg_of X G a27, F27.kp, b27⟩⟩
  have G_parse_library : Fn l.prog w K mg base "parse_library" 9 R_parse_library := fn_wrap (PySem.W.mg_of X G a27) b27 F27.kp (ok_parse_library F27 B KC KL WD KT XF G_Draft_init G_Draft_fits_v G_Draft_library G_Draft_take G_read_part_c G_read_part_l G_read_part_p G_read_part_s)
  have G_law_line : Fn l.prog w K mg base "_law_line" 10 R_law_line := fn_wrap (PySem.W.mg_of X G a39) b39 F39.kp (ok_law_line F39 B KC KL WD KT XF G_parse_library GX_parse_library)
  exact ok_law F42 B KC KL WD KT XF G_law_cell G_law_draws G_law_line G_law_qcells G_law_qtext G_law_wrong_line G_law_wrong_place
end DL
open PySem PySem.W PyProof.Rows
local macro_rules | `(tactic| walk_at "kd") => `(tactic| first | exact DL.kd_int | exact DL.kd_bl | exact DL.kd_str | (refine' DL.kd_tup ?l ?c ?e ?z ?r; (case l => k_is); (case c => rfl); (case e => rfl); (case z => decide); (case r => walk_at "kds")))
local macro_rules | `(tactic| walk_at "kds") => `(tactic| first | exact DL.kds_nil | (refine' DL.kds_cons ?a ?b; (case a => walk_at "kd"); (case b => walk_at "kds")))
set_option maxRecDepth 100000 in
set_option maxHeartbeats 0 in
theorem PySem.Challenge.cw_reticle_k31_faults_of_written_libraries_holds : PySem.Challenge.rw_reticle_k31_faults_of_written_libraries.Holds := by
  w_on; o_law; k_head; (case hw => w_witness2)
  k_fill
  refine DL.walk_law (l := PySem.Challenge.rw_reticle_k31_faults_of_written_libraries) (k := 11) rfl ⟨rfl, by decide, by decide⟩ rfl (fun w h Y => PySem.W.kIn_of Y) ?F
  case F =>
    intro w mg fa h KX G hmg
    refine' DL.all_mk KX G hmg ?aC_Cell ?pg_Cell ?hd_Cell ?po_Cell ?sa_Cell ?ha_Cell ?hn_Cell ?htk_Cell ?hm_Cell ?kc_Cell ?mk_Cell ?na0_Cell ?na1_Cell ?na2_Cell ?na3_Cell ?aC_Library ?pg_Library ?hd_Library ?po_Library ?sa_Library ?ha_Library ?hn_Library ?htk_Library ?hm_Library ?kc_Library ?mk_Library ?na0_Library ?na1_Library ?na2_Library ?na3_Library ?aC_Draft ?pg_Draft ?hd_Draft ?po_Draft ?sa_Draft ?ha_Draft ?hn_Draft ?htk_Draft ?hm_Draft ?kc_Draft ?mk_Draft ?na0_Draft ?na1_Draft ?na2_Draft ?na3_Draft ?a0 ?l0 ?c0 ?k0 ?a1 ?l1 ?c1 ?k1 ?a2 ?l2 ?c2 ?k2 ?a3 ?l3 ?c3 ?k3 ?a4 ?l4 ?c4 ?k4 ?a5 ?l5 ?c5 ?k5 ?a6 ?i6 ?l6 ?c6 ?k6 ?a7 ?l7 ?c7 ?k7 ?a8 ?i8 ?l8 ?c8 ?k8 ?a9 ?i9 ?l9 ?c9 ?k9 ?a10 ?i10 ?l10 ?c10 ?k10 ?a11 ?i11 ?l11 ?c11 ?k11 ?a12 ?i12 ?l12 ?c12 ?k12 ?a13 ?i13 ?l13 ?c13 ?k13 ?a14 ?i14 ?l14 ?c14 ?k14 ?a15 ?l15 ?c15 ?k15 ?a16 ?l16 ?c16 ?k16 ?a17 ?l17 ?c17 ?k17 ?a18 ?l18 ?c18 ?k18 ?a19 ?l19 ?c19 ?k19 ?a20 ?l20 ?c20 ?k20 ?a21 ?l21 ?c21 ?k21 ?a22 ?i22 ?l22 ?c22 ?k22 ?a23 ?i23 ?l23 ?c23 ?k23 ?a24 ?i24 ?l24 ?c24 ?k24 ?a25 ?i25 ?l25 ?c25 ?k25 ?a26 ?i26 ?l26 ?c26 ?k26 ?a27 ?l27 ?c27 ?k27 ?a28 ?l28 ?c28 ?k28 ?a29 ?l29 ?c29 ?k29 ?a30 ?l30 ?c30 ?k30 ?a31 ?l31 ?c31 ?k31 ?a32 ?l32 ?c32 ?k32 ?a33 ?l33 ?c33 ?k33 ?a34 ?l34 ?c34 ?k34 ?a35 ?l35 ?c35 ?k35 ?a36 ?l36 ?c36 ?k36 ?a37 ?l37 ?c37 ?k37 ?a38 ?l38 ?c38 ?k38 ?a39 ?l39 ?c39 ?k39 ?a40 ?l40 ?c40 ?k40 ?a41 ?l41 ?c41 ?k41 ?a42 ?l42 ?c42 ?k42 ?z_all ?z_enumerate ?z_int ?z_isinstance ?z_len ?z_list ?z_max ?z_min ?z_range ?z_str ?z_sum ?z_tuple ?y_LABEL_LAYERS ?w_LABEL_LAYERS ?y_LAYERS ?w_LAYERS ?y_MOST_CELLS ?w_MOST_CELLS ?y_MOST_CHARACTERS ?w_MOST_CHARACTERS ?y_MOST_COPIES ?w_MOST_COPIES ?y_MOST_DIGITS ?w_MOST_DIGITS ?y_TURNS ?w_TURNS ?a_READERS ?l_READERS ?q_READERS ?lo_READERS ?v0_READERS ?v1_READERS ?v2_READERS ?v3_READERS ?vn0_READERS ?vn1_READERS ?vn2_READERS ?vn3_READERS ?vn4_READERS ?a_WORD_COUNTS ?l_WORD_COUNTS ?q_WORD_COUNTS ?v0_WORD_COUNTS ?d0_WORD_COUNTS ?v1_WORD_COUNTS ?d1_WORD_COUNTS ?v2_WORD_COUNTS ?d2_WORD_COUNTS ?v3_WORD_COUNTS ?d3_WORD_COUNTS ?ta_LINE_ORDER ?tl_LINE_ORDER ?tz_LINE_ORDER ?tv_LINE_ORDER ?ea_InvalidText ?es_InvalidText ?ed_InvalidText ?et_InvalidText ?eg_InvalidText ?en_InvalidText ?ec_InvalidText ?ep_InvalidText ?ex_InvalidText ?em_InvalidText ?ea_ReticleError ?es_ReticleError ?ed_ReticleError ?et_ReticleError ?e4_m1 ?xga_InvalidText ?xgg_InvalidText ?xno0_InvalidText ?lcl_InvalidText ?lox_InvalidText ?lsa_InvalidText ?lkp_InvalidText ?lin_InvalidText ?lti_InvalidText ?lfn_InvalidText ?lcd_InvalidText ?lce_InvalidText ?lco_InvalidText ?lvs_InvalidText ?lfi_InvalidText ?lto_InvalidText ?lsu_InvalidText ?lmr_InvalidText ?lop_InvalidText ?lii_InvalidText ?lve_InvalidText ?lf1_InvalidText
    (case aC_Cell => k_is); (case pg_Cell => k_is); (case hd_Cell => k_is); (case po_Cell => k_is); (case sa_Cell => k_is); (case ha_Cell => k_is); (case hn_Cell => k_is); (case htk_Cell => k_is)
    (case hm_Cell => k_is); (case kc_Cell => k_is); (case mk_Cell => k_is); (case na0_Cell => k_is); (case na1_Cell => k_is); (case na2_Cell => k_is); (case na3_Cell => k_is); (case aC_Library => k_is)
    (case pg_Library => k_is); (case hd_Library => k_is); (case po_Library => k_is); (case sa_Library => k_is); (case ha_Library => k_is); (case hn_Library => k_is); (case htk_Library => k_is); (case hm_Library => k_is)
    (case kc_Library => k_is); (case mk_Library => k_is); (case na0_Library => k_is); (case na1_Library => k_is); (case na2_Library => k_is); (case na3_Library => k_is); (case aC_Draft => k_is); (case pg_Draft => k_is)
    (case hd_Draft => k_is); (case po_Draft => k_is); (case sa_Draft => k_is); (case ha_Draft => k_is); (case hn_Draft => k_is); (case htk_Draft => k_is); (case hm_Draft => k_is); (case kc_Draft => k_is)
    (case mk_Draft => k_is); (case na0_Draft => k_is); (case na1_Draft => k_is); (case na2_Draft => k_is); (case na3_Draft => k_is); (case a0 => k_is); (case l0 => k_is); (case c0 => k_is)
    (case k0 => k_is); (case a1 => k_is); (case l1 => k_is); (case c1 => k_is); (case k1 => k_is); (case a2 => k_is); (case l2 => k_is); (case c2 => k_is)
    (case k2 => k_is); (case a3 => k_is); (case l3 => k_is); (case c3 => k_is); (case k3 => k_is); (case a4 => k_is); (case l4 => k_is); (case c4 => k_is)
    (case k4 => k_is); (case a5 => k_is); (case l5 => k_is); (case c5 => k_is); (case k5 => k_is); (case a6 => k_is); (case i6 => k_is); (case l6 => k_is)
    (case c6 => k_is); (case k6 => k_is); (case a7 => k_is); (case l7 => k_is); (case c7 => k_is); (case k7 => k_is); (case a8 => k_is); (case i8 => k_is)
    (case l8 => k_is); (case c8 => k_is); (case k8 => k_is); (case a9 => k_is); (case i9 => k_is); (case l9 => k_is); (case c9 => k_is); (case k9 => k_is)
    (case a10 => k_is); (case i10 => k_is); (case l10 => k_is); (case c10 => k_is); (case k10 => k_is); (case a11 => k_is); (case i11 => k_is); (case l11 => k_is)
    (case c11 => k_is); (case k11 => k_is); (case a12 => k_is); (case i12 => k_is); (case l12 => k_is); (case c12 => k_is); (case k12 => k_is); (case a13 => k_is)
    (case i13 => k_is); (case l13 => k_is); (case c13 => k_is); (case k13 => k_is); (case a14 => k_is); (case i14 => k_is); (case l14 => k_is); (case c14 => k_is)
    (case k14 => k_is); (case a15 => k_is); (case l15 => k_is); (case c15 => k_is); (case k15 => k_is); (case a16 => k_is); (case l16 => k_is); (case c16 => k_is)
    (case k16 => k_is); (case a17 => k_is); (case l17 => k_is); (case c17 => k_is); (case k17 => k_is); (case a18 => k_is); (case l18 => k_is); (case c18 => k_is)
    (case k18 => k_is); (case a19 => k_is); (case l19 => k_is); (case c19 => k_is); (case k19 => k_is); (case a20 => k_is); (case l20 => k_is); (case c20 => k_is)
    (case k20 => k_is); (case a21 => k_is); (case l21 => k_is); (case c21 => k_is); (case k21 => k_is); (case a22 => k_is); (case i22 => k_is); (case l22 => k_is)
    (case c22 => k_is); (case k22 => k_is); (case a23 => k_is); (case i23 => k_is); (case l23 => k_is); (case c23 => k_is); (case k23 => k_is); (case a24 => k_is)
    (case i24 => k_is); (case l24 => k_is); (case c24 => k_is); (case k24 => k_is); (case a25 => k_is); (case i25 => k_is); (case l25 => k_is); (case c25 => k_is)
    (case k25 => k_is); (case a26 => k_is); (case i26 => k_is); (case l26 => k_is); (case c26 => k_is); (case k26 => k_is); (case a27 => k_is); (case l27 => k_is)
    (case c27 => k_is); (case k27 => k_is); (case a28 => k_is); (case l28 => k_is); (case c28 => k_is); (case k28 => k_is); (case a29 => k_is); (case l29 => k_is)
    (case c29 => k_is); (case k29 => k_is); (case a30 => k_is); (case l30 => k_is); (case c30 => k_is); (case k30 => k_is); (case a31 => k_is); (case l31 => k_is)
    (case c31 => k_is); (case k31 => k_is); (case a32 => k_is); (case l32 => k_is); (case c32 => k_is); (case k32 => k_is); (case a33 => k_is); (case l33 => k_is)
    (case c33 => k_is); (case k33 => k_is); (case a34 => k_is); (case l34 => k_is); (case c34 => k_is); (case k34 => k_is); (case a35 => k_is); (case l35 => k_is)
    (case c35 => k_is); (case k35 => k_is); (case a36 => k_is); (case l36 => k_is); (case c36 => k_is); (case k36 => k_is); (case a37 => k_is); (case l37 => k_is)
    (case c37 => k_is); (case k37 => k_is); (case a38 => k_is); (case l38 => k_is); (case c38 => k_is); (case k38 => k_is); (case a39 => k_is); (case l39 => k_is)
    (case c39 => k_is); (case k39 => k_is); (case a40 => k_is); (case l40 => k_is); (case c40 => k_is); (case k40 => k_is); (case a41 => k_is); (case l41 => k_is)
    (case c41 => k_is); (case k41 => k_is); (case a42 => k_is); (case l42 => k_is); (case c42 => k_is); (case k42 => k_is); (case z_all => k_is); (case z_enumerate => k_is)
    (case z_int => k_is); (case z_isinstance => k_is); (case z_len => k_is); (case z_list => k_is); (case z_max => k_is); (case z_min => k_is); (case z_range => k_is); (case z_str => k_is)
    (case z_sum => k_is); (case z_tuple => k_is); (case y_LABEL_LAYERS => k_is); (case w_LABEL_LAYERS => walk_at "kd"); (case y_LAYERS => k_is); (case w_LAYERS => walk_at "kd"); (case y_MOST_CELLS => k_is); (case w_MOST_CELLS => walk_at "kd")
    (case y_MOST_CHARACTERS => k_is); (case w_MOST_CHARACTERS => walk_at "kd"); (case y_MOST_COPIES => k_is); (case w_MOST_COPIES => walk_at "kd"); (case y_MOST_DIGITS => k_is); (case w_MOST_DIGITS => walk_at "kd"); (case y_TURNS => k_is); (case w_TURNS => walk_at "kd")
    (case a_READERS => k_is); (case l_READERS => k_is); (case q_READERS => exact ⟨⟨_, _, rfl, rfl⟩, ⟨⟨_, _, rfl, rfl⟩, ⟨⟨_, _, rfl, rfl⟩, ⟨⟨_, _, rfl, rfl⟩, trivial⟩⟩⟩⟩); (case lo_READERS => first | rfl | decide); (case v0_READERS => k_is); (case v1_READERS => k_is); (case v2_READERS => k_is); (case v3_READERS => k_is)
    (case vn0_READERS => k_is); (case vn1_READERS => k_is); (case vn2_READERS => k_is); (case vn3_READERS => k_is); (case vn4_READERS => k_is); (case a_WORD_COUNTS => k_is); (case l_WORD_COUNTS => k_is); (case q_WORD_COUNTS => exact ⟨⟨_, _, rfl, rfl⟩, ⟨⟨_, _, rfl, rfl⟩, ⟨⟨_, _, rfl, rfl⟩, ⟨⟨_, _, rfl, rfl⟩, trivial⟩⟩⟩⟩)
    (case v0_WORD_COUNTS => k_is); (case d0_WORD_COUNTS => walk_at "kd"); (case v1_WORD_COUNTS => k_is); (case d1_WORD_COUNTS => walk_at "kd"); (case v2_WORD_COUNTS => k_is); (case d2_WORD_COUNTS => walk_at "kd"); (case v3_WORD_COUNTS => k_is); (case d3_WORD_COUNTS => walk_at "kd")
    (case ta_LINE_ORDER => k_is); (case tl_LINE_ORDER => k_is); (case tz_LINE_ORDER => decide); (case tv_LINE_ORDER => exact DL.vs_cons (DL.vs_cons (DL.vs_cons (DL.vs_cons (DL.vs_nil))))); (case ea_InvalidText => k_is); (case es_InvalidText => k_is); (case ed_InvalidText => k_is); (case et_InvalidText => k_is)
    (case eg_InvalidText => k_is); (case en_InvalidText => k_is); (case ec_InvalidText => k_is); (case ep_InvalidText => k_is); (case ex_InvalidText => k_is); (case em_InvalidText => k_is); (case ea_ReticleError => k_is); (case es_ReticleError => k_is)
    (case ed_ReticleError => k_is); (case et_ReticleError => k_is); (case e4_m1 => k_is); (case xga_InvalidText => k_is); (case xgg_InvalidText => k_is); (case xno0_InvalidText => k_is); (case lcl_InvalidText => k_is); (case lox_InvalidText => rfl)
    (case lsa_InvalidText => k_is); (case lkp_InvalidText => k_is); (case lin_InvalidText => k_is); (case lti_InvalidText => k_is); (case lfn_InvalidText => k_is); (case lcd_InvalidText => k_is); (case lce_InvalidText => k_is); (case lco_InvalidText => k_is)
    (case lvs_InvalidText => rfl); (case lfi_InvalidText => first | rfl | decide +kernel); (case lto_InvalidText => first | rfl | decide +kernel); (case lsu_InvalidText => k_is); (case lmr_InvalidText => k_is); (case lop_InvalidText => k_is); (case lii_InvalidText => first | ks_is | kernel_rfl | decide +kernel); (case lve_InvalidText => k_is)
    (case lf1_InvalidText => k_is)
