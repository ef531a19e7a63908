import PyProof.Rows.All
import Wide.All
import OpenK.AllK
import Wide.FinOn
import HandS.ForMost
import HandS.Walk
import HandS.IsInst
import HandS.Style
import HandS.Defaults
import HandS.NoneIn
import PySem.Challenge.RW_reticle_k83_faults_of_written_schematics
import HandS.SetKeys
import HandS.SortRule
import HandS.SortInts
import HandS.More
import KE.KDictCopyH
import KE.KDictSum
import HandS.SetFor
import HandS.Flow
import HandS.SortKw
import HandS.ExcValue
import HandS.Deep
import KE.SortKeyHeap
import HandS.Strs
import KE.KDictList
import PyProof.Rows.TupTab
import HandS.TupLen
import HandS.Codes
import KE.SortData
import KE.KDictPairs
import HandS.TupAny
import HandS.DictComp
import PyProof.AutoSeq1
import HandS.Conv
import HandS.SlotsOwn
import HandS.WordsExc
import HandS.ExcIs
import HandS.Small
import HandS.FStr
import HandS.DictTup
import KE.DatumOrd
import HandS.Text
import HandS.Property
import PyProof.Rows.Range3
import KE.GoesEnumKw
import KE.GoesEnum
import HandS.Star
import PyProof.EnumMake
import PyProof.Draws
import KE.GoesMore
import HandS.WordsDict
import HandS.RaiseMore
import HandS.CallLocal
import KE.KIndexOf
import HandS.Call
import KE.KExcSuper
import HandS.NestedK
import HandS.ExcInit
import HandS.ExcField
import HandS.ClsMeth
import HandS.ExcCtx
import HandS.HotCalls
import HandS.ExcInitHot
set_option Elab.async false
set_option linter.all false
set_option maxRecDepth 100000
set_option maxHeartbeats 4000000
namespace DL
open PySem PySem.Spec L2
inductive D where
  | non | bl (b : Bool) | int (i : Int) | str (x : Str) | ty (n : String)
  | lst (xs : List D) | tup (xs : List D)
  | dk (ks : List Key) (ds : List D) | dt (ks : List (List Key)) (ds : List D)
  | obj (cn : Str) (ns : List Str) (ds : List D)
  /-- what stands at a place -/
  | ad (a : Addr)
  /-- a tuple that is known to have no dict -/
  | ptp (xs : List D)
  /-- a tuple that is known to be no constant -/
  | etp (xs : List D)
  /-- an exception of an own class: where it is, where its dict is -/
  | exc (a x : Addr) (ns : List Str) (ds : List D)
mutual
def DR (K : PySem.W.Frag) (H : Hp) : D → V → Prop
  | .non, v => v = .non
  | .bl b, v => v = .bl b
  | .int i, v => v = .int i
  | .str x, v => v = .str x
  | .ty n, v => v = .ty n
  | .lst ds, v => ∃ a vs, v = .ref a ∧ SqL K H a vs ∧ DRs K H ds vs
  | .tup ds, v => ∃ a vs, v = .ref a ∧ SqT K H a vs ∧ DRs K H ds vs
  | .dk ks ds, v => ∃ a vs, v = .ref a ∧ Rd H a (.dK (ks.zip vs)) ∧ ks.length = vs.length ∧ DRs K H ds vs
  | .dt ks ds, v => ∃ a vs, v = .ref a ∧ Rd H a (.dT (ks.zip vs)) ∧ ks.length = vs.length ∧ DRs K H ds vs
  | .obj cn ns ds, v => ∃ a C dx vs, v = .ref a ∧ PySem.W.nsIn K mainGlobals cn = some (some (.ref C)) ∧ H a = some (.ins C dx (ns.zip vs)) ∧ ns.length = vs.length ∧ DRs K H ds vs
  | .ad a, v => v = .ref a
  | .ptp ds, v => ∃ a o vs, v = .ref a ∧ H a = some (.frz o (.tup vs)) ∧ o.dict = none ∧ DRs K H ds vs
  | .etp ds, v => ∃ a vs, v = .ref a ∧ H a = some (.tup vs) ∧ DRs K H ds vs
  | .exc a x ns ds, v => v = .ref a ∧ ∃ vs, H x = some (.xd (ns.zip vs)) ∧ ns.length = vs.length ∧ DRs K H ds vs
def DRs (K : PySem.W.Frag) (H : Hp) : List D → List V → Prop
  | [], vs => vs = []
  | d :: ds, vs => ∃ v r, vs = v :: r ∧ DR K H d v ∧ DRs K H ds r
end
theorem Same.seqT {K : PySem.W.Frag} {H H' : Hp} {a : Addr} {xs : List V} (e : Same H H') (h : SqT K H a xs) : SqT K H' a xs := by
  rcases h with (h | ⟨o, h⟩) | h
  · exact .inl (.inl (e _ _ h))
  · exact .inl (.inr ⟨o, e _ _ h⟩)
  · exact .inr h
theorem Same.rd {H H' : Hp} {a : Addr} {u : HO} (e : Same H H') (h : Rd H a u) : Rd H' a u := by
  rcases h with h | ⟨o, h⟩
  · exact .inl (e _ _ h)
  · exact .inr ⟨o, e _ _ h⟩
mutual
theorem DR.mono {K : PySem.W.Frag} {H H' : Hp} (e : Same H H') : ∀ (d : D) (v : V), DR K H d v → DR K H' d v
  | .non, v, h => h
  | .bl _, v, h => h
  | .int _, v, h => h
  | .str _, v, h => h
  | .ty _, v, h => h
  | .lst ds, v, h => by
    obtain ⟨a, vs, h1, h2, h3⟩ := h
    exact ⟨a, vs, h1, e.seq h2, DRs.mono e ds vs h3⟩
  | .tup ds, v, h => by
    obtain ⟨a, vs, h1, h2, h3⟩ := h
    exact ⟨a, vs, h1, Same.seqT e h2, DRs.mono e ds vs h3⟩
  | .dk ks ds, v, h => by
    obtain ⟨a, vs, h1, h2, h4, h3⟩ := h
    exact ⟨a, vs, h1, Same.rd e h2, h4, DRs.mono e ds vs h3⟩
  | .dt ks ds, v, h => by
    obtain ⟨a, vs, h1, h2, h4, h3⟩ := h
    exact ⟨a, vs, h1, Same.rd e h2, h4, DRs.mono e ds vs h3⟩
  | .obj cn ns ds, v, h => by
    obtain ⟨a, C, dx, vs, h1, hn, h2, h4, h3⟩ := h
    exact ⟨a, C, dx, vs, h1, hn, e _ _ h2, h4, DRs.mono e ds vs h3⟩
  | .ad _, v, h => h
  | .ptp ds, v, h => by
    obtain ⟨a, o, vs, h1, h2, h4, h3⟩ := h
    exact ⟨a, o, vs, h1, e _ _ h2, h4, DRs.mono e ds vs h3⟩
  | .etp ds, v, h => by
    obtain ⟨a, vs, h1, h2, h3⟩ := h
    exact ⟨a, vs, h1, e _ _ h2, DRs.mono e ds vs h3⟩
  | .exc a x ns ds, v, h => by
    obtain ⟨h1, vs, h2, h4, h3⟩ := h
    exact ⟨h1, vs, e _ _ h2, h4, DRs.mono e ds vs h3⟩
theorem DRs.mono {K : PySem.W.Frag} {H H' : Hp} (e : Same H H') : ∀ (ds : List D) (vs : List V), DRs K H ds vs → DRs K H' ds vs
  | [], vs, h => h
  | d :: ds, vs, h => by
    obtain ⟨v, r, h1, h2, h3⟩ := h
    exact ⟨v, r, h1, DR.mono e d v h2, DRs.mono e ds r h3⟩
end
theorem DRs.length {K : PySem.W.Frag} {H : Hp} : ∀ {ds : List D} {vs : List V}, DRs K H ds vs → ds.length = vs.length
  | [], vs, h => by cases (show vs = [] from h); rfl
  | d :: ds, vs, h => by
    obtain ⟨v, r, rfl, _, h3⟩ := h
    simp [DRs.length h3]
theorem DRs.get {K : PySem.W.Frag} {H : Hp} : ∀ {ds : List D} {vs : List V} {i : Nat} {d : D}, DRs K H ds vs → ds[i]? = some d → ∃ v, vs[i]? = some v ∧ DR K H d v
  | [], vs, i, d, h, e => by simp at e
  | d' :: ds, vs, 0, d, h, e => by
    obtain ⟨v, r, rfl, h2, h3⟩ := h
    simp at e
    subst e
    exact ⟨v, by simp, h2⟩
  | d' :: ds, vs, i + 1, d, h, e => by
    obtain ⟨v, r, rfl, h2, h3⟩ := h
    obtain ⟨w, h4, h5⟩ := DRs.get (i := i) (d := d) h3 (by simpa using e)
    exact ⟨w, by simpa using h4, h5⟩
theorem DRs.app {K : PySem.W.Frag} {H : Hp} : ∀ {ds es : List D} {vs ws : List V}, DRs K H ds vs → DRs K H es ws → DRs K H (ds ++ es) (vs ++ ws)
  | [], es, vs, ws, h, g => by cases (show vs = [] from h); exact g
  | d :: ds, es, vs, ws, h, g => by
    obtain ⟨v, r, rfl, h2, h3⟩ := h
    exact ⟨v, r ++ ws, rfl, h2, DRs.app h3 g⟩
theorem DRs.one {K : PySem.W.Frag} {H : Hp} {d : D} {v : V} (h : DR K H d v) : DRs K H [d] [v] := ⟨v, [], rfl, h, rfl⟩
theorem DRs.set {K : PySem.W.Frag} {H : Hp} {d : D} {v : V} (g : DR K H d v) : ∀ {ds : List D} {vs : List V} (i : Nat), DRs K H ds vs → DRs K H (ds.set i d) (vs.set i v)
  | [], vs, i, h => by cases (show vs = [] from h); exact rfl
  | d' :: ds, vs, 0, h => by
    obtain ⟨v', r, rfl, h2, h3⟩ := h
    exact ⟨v, r, rfl, g, h3⟩
  | d' :: ds, vs, i + 1, h => by
    obtain ⟨v', r, rfl, h2, h3⟩ := h
    exact ⟨v', r.set i v, rfl, h2, DRs.set g i h3⟩
theorem DRs.take {K : PySem.W.Frag} {H : Hp} : ∀ {ds : List D} {vs : List V} (n : Nat), DRs K H ds vs → DRs K H (ds.take n) (vs.take n)
  | ds, vs, 0, h => by simp [DRs]
  | [], vs, n + 1, h => by cases (show vs = [] from h); exact rfl
  | d :: ds, vs, n + 1, h => by
    obtain ⟨v, r, rfl, h2, h3⟩ := h
    exact ⟨v, r.take n, rfl, h2, DRs.take n h3⟩
theorem DRs.drop {K : PySem.W.Frag} {H : Hp} : ∀ {ds : List D} {vs : List V} (n : Nat), DRs K H ds vs → DRs K H (ds.drop n) (vs.drop n)
  | ds, vs, 0, h => by simpa using h
  | [], vs, n + 1, h => by cases (show vs = [] from h); exact rfl
  | d :: ds, vs, n + 1, h => by
    obtain ⟨v, r, rfl, h2, h3⟩ := h
    exact DRs.drop (ds := ds) (vs := r) n h3
theorem DRs.ints {K : PySem.W.Frag} {H : Hp} : ∀ {ns : List Int} {vs : List V}, DRs K H (ns.map D.int) vs → vs = ns.map V.int
  | [], vs, h => h
  | n :: ns, vs, h => by
    obtain ⟨v, r, rfl, h2, h3⟩ := h
    cases (show v = .int n from h2)
    rw [DRs.ints h3]; rfl
theorem DRs.ofInts {K : PySem.W.Frag} {H : Hp} : ∀ (ns : List Int), DRs K H (ns.map D.int) (ns.map V.int)
  | [] => rfl
  | n :: ns => ⟨.int n, ns.map V.int, rfl, rfl, DRs.ofInts ns⟩
theorem DRs.bls {K : PySem.W.Frag} {H : Hp} : ∀ {ns : List Bool} {vs : List V}, DRs K H (ns.map D.bl) vs → vs = ns.map V.bl
  | [], vs, h => h
  | n :: ns, vs, h => by
    obtain ⟨v, r, rfl, h2, h3⟩ := h
    cases (show v = .bl n from h2)
    rw [DRs.bls h3]; rfl
theorem DRs.strs {K : PySem.W.Frag} {H : Hp} : ∀ {ns : List Str} {vs : List V}, DRs K H (ns.map D.str) vs → vs = ns.map V.str
  | [], vs, h => h
  | n :: ns, vs, h => by
    obtain ⟨v, r, rfl, h2, h3⟩ := h
    cases (show v = .str n from h2)
    rw [DRs.strs h3]; rfl
/-- what may be nobody else's -/
def NT : HO → Prop
  | .tup _ => False
  | _ => True
structure JH (B0 B H0 H : Hp) : Prop where
  s0 : Same B0 H0
  sh : Same H0 H
  sB : Same B H
  fr : ∀ a o, B a = some o → NT o → B0 a = none → H0 a = none
theorem JH.refl {H0 H : Hp} (h : Same H0 H) : JH H0 H H0 H := ⟨Same.refl _, h, Same.refl _, fun _ _ _ _ h => h⟩
theorem JH.trans {B0 B H0 H G0 G : Hp} (a : JH B0 B H0 H) (b : JH H0 H G0 G) : JH B0 B G0 G :=
  ⟨a.s0.trans b.s0, b.sh, a.sB.trans b.sB, fun x o h n h' => b.fr x o (a.sB x o h) n (a.fr x o h n h')⟩
/-- a new thing that is shared at once -/
theorem JH.new {H0 H : Hp} {p : Addr} {o : HO} (h : Same H0 H) (n : H p = none) : JH H0 H (upd H0 p o) (upd H p o) := by
  have n0 : H0 p = none := h.free n
  refine ⟨fun b u e => ?_, fun b u e => ?_, fun b u e => ?_, fun a u e _ e' => ?_⟩
  · rw [upd_ne (ne_of_none e n0)]; exact e
  · by_cases hb : b = p
    · subst hb; rw [upd_same] at e ⊢; exact e
    · rw [upd_ne hb] at e ⊢; exact h b u e
  · rw [upd_ne (ne_of_none e n)]; exact e
  · rw [upd_ne (ne_of_none e n)]; exact e'
/-- a new thing that is nobody else's -/
theorem JH.own {H0 H : Hp} {p : Addr} {o : HO} (h : Same H0 H) (n : H p = none) : JH H0 H H0 (upd H p o) := by
  have n0 : H0 p = none := h.free n
  refine ⟨Same.refl _, fun b u e => ?_, fun b u e => ?_, fun a u e _ e' => e'⟩
  · rw [upd_ne (ne_of_none e n0)]; exact h b u e
  · rw [upd_ne (ne_of_none e n)]; exact e
/-- what is nobody else's: a list, a dict -/
inductive OC where
  | lst (ds : List D) | dk (ks : List Key) (ds : List D) | dt (ks : List (List Key)) (ds : List D)
  /-- .. while a loop walks it -/
  | fk (ks : List Key) (ds : List D) | ft (ks : List (List Key)) (ds : List D)
  /-- an instance of a class of the text -/
  | ins (cn : Str) (ns : List Str) (ds : List D)
def OCR (K : PySem.W.Frag) (H0 : Hp) : OC → HO → Prop
  | .lst ds, o => ∃ vs, o = .lst vs ∧ DRs K H0 ds vs
  | .dk ks ds, o => ∃ vs, o = .dK (ks.zip vs) ∧ ks.length = vs.length ∧ DRs K H0 ds vs
  | .dt ks ds, o => ∃ vs, o = .dT (ks.zip vs) ∧ ks.length = vs.length ∧ DRs K H0 ds vs
  | .fk ks ds, o => ∃ vs od, o = .frz od (.dK (ks.zip vs)) ∧ ks.length = vs.length ∧ DRs K H0 ds vs
  | .ft ks ds, o => ∃ vs od, o = .frz od (.dT (ks.zip vs)) ∧ ks.length = vs.length ∧ DRs K H0 ds vs
  | .ins cn ns ds, o => ∃ vs C dx, o = .ins C dx (ns.zip vs) ∧ PySem.W.nsIn K mainGlobals cn = some (some (.ref C)) ∧ ns.length = vs.length ∧ DRs K H0 ds vs
theorem OCR.nt {K : PySem.W.Frag} {H0 : Hp} : ∀ {c : OC} {o : HO}, OCR K H0 c o → NT o
  | .lst _, _, ⟨vs, h1, h2⟩ => by subst h1; trivial
  | .dk _ _, _, ⟨vs, h1, h3, h2⟩ => by subst h1; trivial
  | .dt _ _, _, ⟨vs, h1, h3, h2⟩ => by subst h1; trivial
  | .fk _ _, _, ⟨vs, od, h1, h3, h2⟩ => by subst h1; trivial
  | .ft _ _, _, ⟨vs, od, h1, h3, h2⟩ => by subst h1; trivial
  | .ins _ _ _, _, ⟨vs, C, dx, h1, hn, h3, h2⟩ => by subst h1; trivial
theorem OCR.mono {K : PySem.W.Frag} {H0 H0' : Hp} (e : Same H0 H0') : ∀ {c : OC} {o : HO}, OCR K H0 c o → OCR K H0' c o
  | .lst _, _, ⟨vs, h1, h2⟩ => ⟨vs, h1, DRs.mono e _ _ h2⟩
  | .dk _ _, _, ⟨vs, h1, h3, h2⟩ => ⟨vs, h1, h3, DRs.mono e _ _ h2⟩
  | .dt _ _, _, ⟨vs, h1, h3, h2⟩ => ⟨vs, h1, h3, DRs.mono e _ _ h2⟩
  | .fk _ _, _, ⟨vs, od, h1, h3, h2⟩ => ⟨vs, od, h1, h3, DRs.mono e _ _ h2⟩
  | .ft _ _, _, ⟨vs, od, h1, h3, h2⟩ => ⟨vs, od, h1, h3, DRs.mono e _ _ h2⟩
  | .ins _ _ _, _, ⟨vs, C, dx, h1, hn, h3, h2⟩ => ⟨vs, C, dx, h1, hn, h3, DRs.mono e _ _ h2⟩
def OC.d : OC → D
  | .lst ds => .lst ds
  | .dk ks ds => .dk ks ds
  | .dt ks ds => .dt ks ds
  | .fk ks ds => .dk ks ds
  | .ft ks ds => .dt ks ds
  | .ins cn ns ds => .obj cn ns ds
theorem OCR.dr {K : PySem.W.Frag} {H0 : Hp} {c : OC} {a : Addr} {o : HO} (n : H0 a = none) (h : OCR K H0 c o) : DR K (upd H0 a o) c.d (.ref a) := by
  have s0 : Same H0 (upd H0 a o) := fun b u e => by
    rw [upd_ne (fun z => by subst z; rw [n] at e; cases e)]; exact e
  cases c with
  | lst ds => obtain ⟨vs, rfl, r⟩ := h; exact ⟨a, vs, rfl, SqL.of upd_same, DRs.mono s0 _ _ r⟩
  | dk ks ds => obtain ⟨vs, rfl, l, r⟩ := h; exact ⟨a, vs, rfl, .inl upd_same, l, DRs.mono s0 _ _ r⟩
  | dt ks ds => obtain ⟨vs, rfl, l, r⟩ := h; exact ⟨a, vs, rfl, .inl upd_same, l, DRs.mono s0 _ _ r⟩
  | fk ks ds => obtain ⟨vs, od, rfl, l, r⟩ := h; exact ⟨a, vs, rfl, .inr ⟨od, upd_same⟩, l, DRs.mono s0 _ _ r⟩
  | ft ks ds => obtain ⟨vs, od, rfl, l, r⟩ := h; exact ⟨a, vs, rfl, .inr ⟨od, upd_same⟩, l, DRs.mono s0 _ _ r⟩
  | ins cn ns ds => obtain ⟨vs, C, dx, rfl, hn, l, r⟩ := h; exact ⟨a, C, dx, vs, rfl, hn, upd_same, l, DRs.mono s0 _ _ r⟩
inductive Sl where
  | no | sh (d : D) | ow (c : OC)
  /-- what is at d, and things of its own at places that are told -/
  | ox (cs : List (Addr × OC)) (d : D)
/-- a thing of its own stands at a place -/
structure CellR (K : PySem.W.Frag) (B H0 H : Hp) (a : Addr) (c : OC) : Prop where
  ex : ∃ o, H a = some o ∧ H0 a = none ∧ B a = none ∧ OCR K H0 c o
def SlR (K : PySem.W.Frag) (B H0 H : Hp) : Sl → Option V → Prop
  | .no, _ => True
  | .sh d, ov => ∃ v, ov = some v ∧ DR K H0 d v
  | .ow c, ov => ∃ a o, ov = some (.ref a) ∧ H a = some o ∧ H0 a = none ∧ B a = none ∧ OCR K H0 c o
  | .ox cs d, ov => (∃ v, ov = some v ∧ DR K H0 d v) ∧ (∀ p ∈ cs, CellR K B H0 H p.1 p.2) ∧ (cs.map (·.1)).Nodup
/-- the places of what a slot owns -/
def Owns : Sl → Option V → Addr → Prop
  | .ow _, ov, a => ov = some (.ref a)
  | .ox cs _, _, a => a ∈ cs.map (·.1)
  | _, _, _ => False
abbrev En := List Sl
structure J (K : PySem.W.Frag) (B0 B : Hp) (σ : St) (H0 H : Hp) (ρ : En) : Prop where
  hp : JH B0 B H0 H
  len : σ.length = ρ.length
  sl : ∀ (i : Nat) s ov, ρ[i]? = some s → σ[i]? = some ov → SlR K B H0 H s ov
  dis : ∀ (i j : Nat) s s' ov ov' a, ρ[i]? = some s → ρ[j]? = some s' → σ[i]? = some ov → σ[j]? = some ov' → Owns s ov a → Owns s' ov' a → i = j
section
variable {K : PySem.W.Frag} {B0 B H0 H H0' H' : Hp} {σ σ' : St} {ρ ρ' : En}
theorem J.get (j : J K B0 B σ H0 H ρ) {i : Nat} {s : Sl} (h : ρ[i]? = some s) : ∃ ov, σ[i]? = some ov ∧ SlR K B H0 H s ov := by
  have hi : i < σ.length := by
    have := (List.getElem?_eq_some_iff.mp h).1
    rw [j.len]; exact this
  exact ⟨σ[i], by simp [hi], j.sl i s σ[i] h (by simp [hi])⟩
theorem CellR.grow (g : JH H0 H H0' H') {a : Addr} {c : OC} (h : CellR K B H0 H a c) : CellR K B H0' H' a c := by
  obtain ⟨o, h2, h3, h4, h5⟩ := h
  exact ⟨o, g.sB _ _ h2, g.fr _ _ h2 h5.nt h3, h4, h5.mono g.s0⟩
theorem SlR.grow (g : JH H0 H H0' H') {s : Sl} {ov : Option V} (h : SlR K B H0 H s ov) : SlR K B H0' H' s ov := by
  cases s with
  | no => trivial
  | sh d => obtain ⟨v, h1, h2⟩ := h; exact ⟨v, h1, DR.mono g.s0 _ _ h2⟩
  | ow c => obtain ⟨a, o, h1, h2, h3, h4, h5⟩ := h; exact ⟨a, o, h1, g.sB _ _ h2, g.fr _ _ h2 h5.nt h3, h4, h5.mono g.s0⟩
  | ox cs d => obtain ⟨⟨v, h1, h2⟩, h3, h4⟩ := h; exact ⟨⟨v, h1, DR.mono g.s0 _ _ h2⟩, fun p hp => (h3 p hp).grow g, h4⟩
theorem J.grow (j : J K B0 B σ H0 H ρ) (g : JH H0 H H0' H') : J K B0 B σ H0' H' ρ :=
  ⟨j.hp.trans g, j.len, fun i s ov h1 h2 => (j.sl i s ov h1 h2).grow g, j.dis⟩
theorem J.same (j : J K B0 B σ H0 H ρ) : Same H0 H := j.hp.sh
theorem set_get {α : Type} {l : List α} {i j : Nat} {x y : α} (h : (l.set i x)[j]? = some y) : (j = i ∧ y = x ∧ i < l.length) ∨ (j ≠ i ∧ l[j]? = some y) := by
  by_cases e : i = j
  · subst e
    by_cases hl : i < l.length
    · rw [List.getElem?_set_self hl] at h
      exact .inl ⟨rfl, (Option.some.inj h).symm, hl⟩
    · rw [List.getElem?_eq_none (by simpa using hl)] at h; cases h
  · rw [List.getElem?_set_ne e] at h
    exact .inr ⟨fun z => e z.symm, h⟩
/-- what a slot owns is there, not shared, and new since the base -/
theorem J.own (j : J K B0 B σ H0 H ρ) {i : Nat} {s : Sl} {ov : Option V} {a : Addr} (h : ρ[i]? = some s) (hσ : σ[i]? = some ov) (w : Owns s ov a) : ∃ o, H a = some o ∧ H0 a = none ∧ B a = none := by
  have r := j.sl i s ov h hσ
  cases s with
  | no => cases w
  | sh d => cases w
  | ow c =>
    obtain ⟨b, o, e, h2, h3, h4, _⟩ := r
    cases e.symm.trans (show ov = _ from w)
    exact ⟨o, h2, h3, h4⟩
  | ox cs d =>
    obtain ⟨p, hp, rfl⟩ := List.mem_map.mp (show a ∈ cs.map (·.1) from w)
    obtain ⟨o, h2, h3, h4, _⟩ := (r.2.1 p hp).ex
    exact ⟨o, h2, h3, h4⟩
/-- a slot is changed: the heap stays; what it owns then it owned before -/
theorem J.setTo (j : J K B0 B σ H0 H ρ) {i : Nat} {s : Sl} {ov : Option V} (r : SlR K B H0 H s ov) (n : ∀ a, Owns s ov a → ∀ k s' ov', k ≠ i → ρ[k]? = some s' → σ[k]? = some ov' → ¬ Owns s' ov' a) : J K B0 B (σ.set i ov) H0 H (ρ.set i s) := by
  refine ⟨j.hp, by simp [j.len], fun k s1 ov1 h1 h2 => ?_, fun k l s1 s2 o1 o2 a h1 h2 h3 h4 w1 w2 => ?_⟩
  · rcases set_get h1 with ⟨rfl, rfl, _⟩ | ⟨ne, h1⟩
    · rcases set_get h2 with ⟨_, rfl, _⟩ | ⟨ne, _⟩
      · exact r
      · exact absurd rfl ne
    · rcases set_get h2 with ⟨e, _, _⟩ | ⟨_, h2⟩
      · exact absurd e ne
      · exact j.sl k s1 ov1 h1 h2
  · rcases set_get h1 with ⟨e1, q1, _⟩ | ⟨n1, g1⟩
    · rcases set_get h2 with ⟨e2, _, _⟩ | ⟨n2, g2⟩
      · rw [e1, e2]
      · rcases set_get h3 with ⟨_, q3, _⟩ | ⟨n3, _⟩
        · rw [q1, q3] at w1
          rw [List.getElem?_set_ne (Ne.symm n2)] at h4
          exact absurd w2 (n a w1 l s2 o2 n2 g2 h4)
        · exact absurd e1 n3
    · rcases set_get h2 with ⟨e2, q2, _⟩ | ⟨n2, g2⟩
      · rcases set_get h4 with ⟨_, q4, _⟩ | ⟨n4, _⟩
        · rw [q2, q4] at w2
          rw [List.getElem?_set_ne (Ne.symm n1)] at h3
          exact absurd w1 (n a w2 k s1 o1 n1 g1 h3)
        · exact absurd e2 n4
      · rw [List.getElem?_set_ne (Ne.symm n1)] at h3
        rw [List.getElem?_set_ne (Ne.symm n2)] at h4
        exact j.dis k l s1 s2 o1 o2 a g1 g2 h3 h4 w1 w2
/-- .. and its value too stays -/
theorem J.setSl (j : J K B0 B σ H0 H ρ) {i : Nat} {s : Sl} {ov : Option V} (hσ : σ[i]? = some ov) (r : SlR K B H0 H s ov) (n : ∀ a, Owns s ov a → ∀ k s' ov', k ≠ i → ρ[k]? = some s' → σ[k]? = some ov' → ¬ Owns s' ov' a) : J K B0 B σ H0 H (ρ.set i s) := by
  have q := j.setTo (i := i) r n
  have e : σ.set i ov = σ := by
    refine List.ext_getElem? fun k => ?_
    by_cases hk : i = k
    · subst hk
      rw [hσ, List.getElem?_set_self (List.getElem?_eq_some_iff.mp hσ).1]
    · rw [List.getElem?_set_ne hk]
  rwa [e] at q
theorem J.sub (j : J K B0 B σ H0 H ρ) {i : Nat} {s s0 : Sl} {ov : Option V} (h : ρ[i]? = some s0) (hσ : σ[i]? = some ov) (w : ∀ a, Owns s ov a → Owns s0 ov a) : ∀ a, Owns s ov a → ∀ k s' ov', k ≠ i → ρ[k]? = some s' → σ[k]? = some ov' → ¬ Owns s' ov' a :=
  fun a w1 k s' ov' ne h1 h2 w2 => ne (j.dis k i s' s0 ov' ov a h1 h h2 hσ w2 (w a w1))
theorem Owns.none {s : Sl} {ov : Option V} (h : s = .no ∨ ∃ d, s = .sh d) (a : Addr) : ¬ Owns s ov a := by
  rcases h with rfl | ⟨d, rfl⟩ <;> exact fun w => w
/-- a slot gets a value that is shared -/
theorem J.setSh (j : J K B0 B σ H0 H ρ) {i : Nat} {d : D} {v : V} (h : DR K H0 d v) : J K B0 B (σ.set i (some v)) H0 H (ρ.set i (.sh d)) :=
  j.setTo (s := .sh d) ⟨v, rfl, h⟩ fun a w => w.elim
/-- a slot is forgotten -/
theorem J.drop (j : J K B0 B σ H0 H ρ) (i : Nat) : J K B0 B σ H0 H (ρ.set i .no) := by
  by_cases hi : i < σ.length
  · exact j.setSl (s := .no) (ov := σ[i]) (by simp [hi]) True.intro fun a w => w.elim
  · have e : ρ.set i .no = ρ := List.set_eq_of_length_le (by rw [← j.len]; omega)
    rw [e]; exact j
/-- a slot gets a new thing of its own -/
theorem J.setOwn (j : J K B0 B σ H0 H ρ) {i : Nat} {c : OC} {a : Addr} {o : HO} (h : H a = some o) (h0 : H0 a = none) (hB : B a = none) (n : ∀ (k : Nat) s ov, k ≠ i → ρ[k]? = some s → σ[k]? = some ov → ¬ Owns s ov a) (r : OCR K H0 c o) :
    J K B0 B (σ.set i (some (.ref a))) H0 H (ρ.set i (.ow c)) :=
  j.setTo (s := .ow c) ⟨a, o, rfl, h, h0, hB, r⟩ fun b w k s' ov' ne h1 h2 w2 => by
    cases (show some (V.ref a) = some (.ref b) from w)
    exact n k s' ov' ne h1 h2 w2
theorem upd_keep {H : Hp} {a b : Addr} {o u : HO} (h : H b = some u) (n : b ≠ a) : upd H a o b = some u := by rw [upd_ne n]; exact h
theorem CellR.keep {a b : Addr} {c : OC} {o : HO} (h : CellR K B H0 H b c) (n : b ≠ a) : CellR K B H0 (upd H a o) b c := by
  obtain ⟨u, h1, h2⟩ := h
  exact ⟨u, upd_keep h1 n, h2⟩
/-- what slot i owns at a is changed -/
theorem J.writeAt (j : J K B0 B σ H0 H ρ) {i : Nat} {s s' : Sl} {ov : Option V} {a : Addr} {o : HO} (h : ρ[i]? = some s) (hσ : σ[i]? = some ov) (w : Owns s ov a) (ws : ∀ b, Owns s' ov b ↔ Owns s ov b) (r : SlR K B H0 (upd H a o) s' ov) : J K B0 B σ H0 (upd H a o) (ρ.set i s') := by
  obtain ⟨o', h1, h2, h3⟩ := j.own h hσ w
  have ne : ∀ b u, H0 b = some u → b ≠ a := fun b u e z => by subst z; rw [h2] at e; cases e
  have neB : ∀ b u, B b = some u → b ≠ a := fun b u e z => by subst z; rw [h3] at e; cases e
  refine ⟨⟨j.hp.s0, fun b u e => upd_keep (j.hp.sh b u e) (ne b u e), fun b u e => upd_keep (j.hp.sB b u e) (neB b u e), j.hp.fr⟩, by simp [j.len], fun k s1 ov1 g1 g2 => ?_, fun k l s1 s2 o1 o2 b g1 g2 g3 g4 w1 w2 => ?_⟩
  · rcases set_get g1 with ⟨rfl, rfl, _⟩ | ⟨nk, g1⟩
    · rw [hσ] at g2; cases g2
      exact r
    · have q := j.sl k s1 ov1 g1 g2
      have nb : ∀ b, Owns s1 ov1 b → b ≠ a := fun b w1 z => by
        subst z
        exact nk (j.dis k i s1 s ov1 ov b g1 h g2 hσ w1 w)
      cases s1 with
      | no => trivial
      | sh d => exact q
      | ow c2 =>
        obtain ⟨b, ob, f1, f2, f3, f4, f5⟩ := q
        exact ⟨b, ob, f1, upd_keep f2 (nb b f1), f3, f4, f5⟩
      | ox cs d =>
        obtain ⟨q1, q2, q3⟩ := q
        exact ⟨q1, fun p hp => (q2 p hp).keep (nb p.1 (List.mem_map.mpr ⟨p, hp, rfl⟩)), q3⟩
  · have p : ∀ {m : Nat} {s3 : Sl} {o3 : Option V}, (ρ.set i s')[m]? = some s3 → σ[m]? = some o3 → Owns s3 o3 b → ∃ s4, ρ[m]? = some s4 ∧ Owns s4 o3 b := fun {m s3 o3} g gσ w3 => by
      rcases set_get g with ⟨rfl, rfl, _⟩ | ⟨_, g⟩
      · rw [hσ] at gσ; cases gσ
        exact ⟨s, h, (ws b).mp w3⟩
      · exact ⟨s3, g, w3⟩
    obtain ⟨s5, f1, f2⟩ := p g1 g3 w1
    obtain ⟨s6, f3, f4⟩ := p g2 g4 w2
    exact j.dis k l s5 s6 o1 o2 b f1 f3 g3 g4 f2 f4
/-- what a slot owns is changed -/
theorem J.write (j : J K B0 B σ H0 H ρ) {i : Nat} {c c' : OC} {a : Addr} {o : HO} (h : ρ[i]? = some (.ow c)) (hσ : σ[i]? = some (some (.ref a))) (r : OCR K H0 c' o) : J K B0 B σ H0 (upd H a o) (ρ.set i (.ow c')) := by
  obtain ⟨o', h1, h2, h3⟩ := j.own h hσ (show Owns (.ow c) (some (.ref a)) a from rfl)
  exact j.writeAt h hσ rfl (fun b => Iff.rfl) ⟨a, o, rfl, upd_same, h2, h3, r⟩
/-- what a slot owns at a place is given to all -/
theorem J.shareAt (j : J K B0 B σ H0 H ρ) {i : Nat} {s : Sl} {ov : Option V} {a : Addr} {c : OC} {o : HO} (h : ρ[i]? = some s) (hσ : σ[i]? = some ov) (w : Owns s ov a) (h1 : H a = some o) (h4 : OCR K H0 c o) {s' : Sl}
    (ws : ∀ b, Owns s' ov b → Owns s ov b ∧ b ≠ a) (r : DR K (upd H0 a o) c.d (.ref a) → SlR K B (upd H0 a o) H s' ov) : J K B0 B σ (upd H0 a o) H (ρ.set i s') ∧ Same H0 (upd H0 a o) := by
  obtain ⟨o', h1', h2, h3⟩ := j.own h hσ w
  have ne : ∀ b u, H0 b = some u → b ≠ a := fun b u e z => by subst z; rw [h2] at e; cases e
  have s0 : Same H0 (upd H0 a o) := fun b u e => upd_keep e (ne b u e)
  have dr : DR K (upd H0 a o) c.d (.ref a) := by
    exact OCR.dr h2 h4
  refine ⟨⟨⟨j.hp.s0.trans s0, fun b u e => ?_, j.hp.sB, fun b u e nt e' => ?_⟩, by simp [j.len], fun k s1 ov1 g1 g2 => ?_, fun k l s1 s2 o1 o2 b g1 g2 g3 g4 w1 w2 => ?_⟩, s0⟩
  · by_cases hb : b = a
    · subst hb; rw [upd_same] at e; cases e; exact h1
    · rw [upd_ne hb] at e; exact j.hp.sh b u e
  · rw [upd_ne (fun z => by subst z; rw [h3] at e; cases e)]; exact j.hp.fr b u e nt e'
  · rcases set_get g1 with ⟨rfl, rfl, _⟩ | ⟨nk, g1⟩
    · rw [hσ] at g2; cases g2
      exact r dr
    · have q := j.sl k s1 ov1 g1 g2
      have nb : ∀ b, Owns s1 ov1 b → b ≠ a := fun b w1 z => by
        subst z
        exact nk (j.dis k i s1 s ov1 ov b g1 h g2 hσ w1 w)
      cases s1 with
      | no => trivial
      | sh d => obtain ⟨v, f1, f2⟩ := q; exact ⟨v, f1, DR.mono s0 _ _ f2⟩
      | ow c2 =>
        obtain ⟨b, ob, f1, f2, f3, f4, f5⟩ := q
        exact ⟨b, ob, f1, f2, by rw [upd_ne (nb b f1)]; exact f3, f4, f5.mono s0⟩
      | ox cs d =>
        obtain ⟨⟨v, f1, f2⟩, q2, q3⟩ := q
        refine ⟨⟨v, f1, DR.mono s0 _ _ f2⟩, fun p hp => ?_, q3⟩
        obtain ⟨ob, f2, f3, f4, f5⟩ := (q2 p hp).ex
        exact ⟨ob, f2, by rw [upd_ne (nb p.1 (List.mem_map.mpr ⟨p, hp, rfl⟩))]; exact f3, f4, f5.mono s0⟩
  · have p : ∀ {m : Nat} {s3 : Sl} {o3 : Option V}, (ρ.set i s')[m]? = some s3 → σ[m]? = some o3 → Owns s3 o3 b → ∃ s4, ρ[m]? = some s4 ∧ Owns s4 o3 b := fun {m s3 o3} g gσ w3 => by
      rcases set_get g with ⟨rfl, rfl, _⟩ | ⟨_, g⟩
      · rw [hσ] at gσ; cases gσ
        exact ⟨s, h, (ws b w3).1⟩
      · exact ⟨s3, g, w3⟩
    obtain ⟨s5, f1, f2⟩ := p g1 g3 w1
    obtain ⟨s6, f3, f4⟩ := p g2 g4 w2
    exact j.dis k l s5 s6 o1 o2 b f1 f3 g3 g4 f2 f4
/-- what a slot owns is given to all -/
theorem J.share (j : J K B0 B σ H0 H ρ) {i : Nat} {c : OC} (h : ρ[i]? = some (.ow c)) : ∃ H0', J K B0 B σ H0' H (ρ.set i (.sh c.d)) ∧ Same H0 H0' := by
  obtain ⟨ov, e1, a, o, e2, h1, h2, h3, h4⟩ := j.get h
  subst e2
  exact ⟨_, j.shareAt (s' := .sh c.d) h e1 rfl h1 h4 (fun b w => w.elim) fun r => ⟨_, rfl, r⟩⟩
/-- the shared part as it is now for a new base -/
theorem J.rebase (j : J K B0 B σ H0 H ρ) : J K H0 B σ H0 H ρ := ⟨⟨Same.refl _, j.hp.sh, j.hp.sB, fun _ _ _ _ h => h⟩, j.len, j.sl, j.dis⟩
theorem J.unbase (j : J K B0 B σ H0 H ρ) (j' : J K H0 B σ' H0' H' ρ') : J K B0 B σ' H0' H' ρ' :=
  ⟨⟨j.hp.s0.trans j'.hp.s0, j'.hp.sh, j'.hp.sB, fun a o h n h' => j'.hp.fr a o h n (j.hp.fr a o h n h')⟩, j'.len, j'.sl, j'.dis⟩
theorem CellR.new {a : Addr} {c : OC} {o : HO} (h : H a = some o) (h0 : H0 a = none) (hB : B a = none) (r : OCR K H0 c o) : CellR K B H0 H a c := ⟨o, h, h0, hB, r⟩
/-- the place of what a slot owns is told -/
theorem J.tell (j : J K B0 B σ H0 H ρ) {i : Nat} {c : OC} (h : ρ[i]? = some (.ow c)) : ∃ a, J K B0 B σ H0 H (ρ.set i (.ox [(a, c)] (.ad a))) := by
  obtain ⟨ov, e1, a, o, rfl, h1, h2, h3, h4⟩ := j.get h
  exact ⟨a, j.setSl (s := .ox [(a, c)] (.ad a)) e1 ⟨⟨_, rfl, rfl⟩, fun p hp => by rw [List.mem_singleton] at hp; subst hp; exact .new h1 h2 h3 h4, by simp⟩ (j.sub h e1 fun b w => by
    have e : b = a := by simpa [Owns] using w
    subst e; rfl)⟩
theorem J.cell (j : J K B0 B σ H0 H ρ) {i : Nat} {cs : List (Addr × OC)} {d : D} (h : ρ[i]? = some (.ox cs d)) {a : Addr} {c : OC} (m : (a, c) ∈ cs) : ∃ o, H a = some o ∧ H0 a = none ∧ B a = none ∧ OCR K H0 c o := by
  obtain ⟨ov, e1, h1, h2, h3⟩ := j.get h
  exact (h2 _ m).ex
/-- one of the places anew -/
def putC (cs : List (Addr × OC)) (a : Addr) (c : OC) : List (Addr × OC) := cs.map fun p => if p.1 = a then (a, c) else p
theorem putC_fst (cs : List (Addr × OC)) (a : Addr) (c : OC) : (putC cs a c).map (·.1) = cs.map (·.1) := by
  unfold putC
  rw [List.map_map]
  refine List.map_congr_left fun p _ => ?_
  show (if p.1 = a then (a, c) else p).1 = p.1
  split
  · rename_i h; exact h.symm
  · rfl
theorem J.put (j : J K B0 B σ H0 H ρ) {i : Nat} {cs : List (Addr × OC)} {d : D} (h : ρ[i]? = some (.ox cs d)) {a : Addr} {c c' : OC} {o : HO} (m : (a, c) ∈ cs) (r : OCR K H0 c' o) : J K B0 B σ H0 (upd H a o) (ρ.set i (.ox (putC cs a c') d)) := by
  obtain ⟨ov, e1, h1, h2, h3⟩ := j.get h
  obtain ⟨o', f1, f2, f3, f4⟩ := j.cell h m
  refine j.writeAt h e1 (List.mem_map.mpr ⟨_, m, rfl⟩) (fun b => by simp only [Owns, putC_fst]) ⟨h1, fun p hp => ?_, by rw [putC_fst]; exact h3⟩
  obtain ⟨q, hq, e⟩ := List.mem_map.mp hp
  by_cases hqa : q.1 = a
  · rw [if_pos hqa] at e
    subst e
    exact .new upd_same f2 f3 r
  · rw [if_neg hqa] at e
    subst e
    exact (h2 q hq).keep hqa
/-- a new thing more -/
theorem J.more (j : J K B0 B σ H0 H ρ) (g : JH H0 H H0' H') {i : Nat} {cs : List (Addr × OC)} {d : D} {a : Addr} {c : OC} {o : HO} (h : ρ[i]? = some (.ox cs d)) (h1 : H' a = some o) (h0 : H0' a = none) (n : H a = none) (r : OCR K H0' c o) : J K B0 B σ H0' H' (ρ.set i (.ox (cs ++ [(a, c)]) d)) := by
  obtain ⟨ov, e1, f1, f2, f3⟩ := (j.grow g).get h
  have nin : ∀ k s' ov', ρ[k]? = some s' → σ[k]? = some ov' → ¬ Owns s' ov' a := fun k s' ov' h1 h2 w => by
    obtain ⟨o, e, _⟩ := j.own h1 h2 w
    rw [n] at e; cases e
  have nm : a ∉ cs.map (·.1) := fun w => nin i _ ov h e1 w
  refine (j.grow g).setSl (s := .ox (cs ++ [(a, c)]) d) e1 ⟨f1, fun p hp => ?_, ?_⟩ fun b w k s' ov' ne g1 g2 w2 => ?_
  · rcases List.mem_append.mp hp with hp | hp
    · exact f2 p hp
    · rw [List.mem_singleton] at hp; subst hp
      exact .new h1 h0 (j.hp.sB.free n) r
  · rw [List.map_append, List.nodup_append]
    refine ⟨f3, by simp, fun x hx y hy => ?_⟩
    have : y = a := by simpa using hy
    subst this
    exact fun e => nm (e ▸ hx)
  · have w' : b ∈ cs.map (·.1) ∨ b = a := by
      have : b ∈ (cs ++ [(a, c)]).map (·.1) := w
      rw [List.map_append, List.mem_append] at this
      simpa using this
    rcases w' with w' | rfl
    · exact ne (j.dis k i s' _ ov' ov b g1 h g2 e1 w2 w')
    · exact nin k s' ov' g1 g2 w2
end
end DL
namespace DL
open PySem PySem.Spec L2
def RE (X : Cx) (e : Expr) : TE := fun σ H Q => ∃ t, PE X e t ∧ t σ H Q
def RT (X : Cx) (e : Expr) : TT := fun σ H Q => ∃ t, PT X e t ∧ t σ H Q
def RW (X : Cx) (e : Expr) : TT := fun σ H Q => ∃ t, PW X e t ∧ t σ H Q
def RA (X : Cx) (es : List Expr) : TA := fun σ H Q => ∃ t, PA X es t ∧ t σ H Q
def RS (X : Cx) (st : Stmt) : TS := fun D σ H => ∃ t, PS X st t ∧ t D σ H
def RSs (X : Cx) (sts : List Stmt) : TS := fun D σ H => ∃ t, PSs X sts t ∧ t D σ H
def RI (X : Cx) (tg iter : Expr) : TI := fun σ H R => ∃ t, PI X tg iter t ∧ t σ H R
def RG (X : Cx) (tg : Expr) : TG := fun v σ H Q => ∃ t, PG X tg t ∧ t v σ H Q
def RGs (X : Cx) (tg : List Expr) : TGs := fun vs σ H Q => ∃ t, PGs X tg t ∧ t vs σ H Q
section
variable {X : Cx}
theorem pe_star {e} : PE X e (RE X e) := ⟨fun pins s σ H Q I ⟨_, h, q⟩ => h.run pins s σ H Q I q⟩
theorem pt_star {e} : PT X e (RT X e) := ⟨fun pins s σ H Q I ⟨_, h, q⟩ => h.run pins s σ H Q I q⟩
theorem pw_star {e} : PW X e (RW X e) := ⟨fun wh pins s σ H Q I ⟨_, h, q⟩ => h.run wh pins s σ H Q I q⟩
theorem pa_star {es} : PA X es (RA X es) := ⟨fun pos pins s σ H Q I ⟨_, h, q⟩ => h.run pos pins s σ H Q I q⟩
theorem ps_star {st} : PS X st (RS X st) := ⟨fun pins s σ H D I ⟨_, h, q⟩ => h.run pins s σ H D I q⟩
theorem pss_star {st} : PSs X st (RSs X st) := ⟨fun pins s σ H D I ⟨_, h, q⟩ => h.run pins s σ H D I q⟩
theorem pi_star {tg it} : PI X tg it (RI X tg it) := ⟨fun pins s σ H R I ⟨_, h, q⟩ => h.run pins s σ H R I q⟩
theorem pg_star {tg} : PG X tg (RG X tg) := ⟨fun pins s σ H v u Q I r ⟨_, h, q⟩ => h.run pins s σ H v u Q I r q⟩
theorem pgs_star {tg} : PGs X tg (RGs X tg) := ⟨fun pins s σ H v u Q I r ⟨_, h, q⟩ => h.run pins s σ H v u Q I r q⟩
theorem RE.of {e t σ H Q} (h : PE X e t) (q : t σ H Q) : RE X e σ H Q := ⟨t, h, q⟩
theorem RT.of {e t σ H Q} (h : PT X e t) (q : t σ H Q) : RT X e σ H Q := ⟨t, h, q⟩
theorem RA.of {e t σ H Q} (h : PA X e t) (q : t σ H Q) : RA X e σ H Q := ⟨t, h, q⟩
end
def ED (X : Cx) (ρ : En) (e : Expr) (d : D) : Prop := ∀ B0 B σ H0 H (Q : VK), J X.K B0 B σ H0 H ρ → (∀ v H0' H', JH H0 H H0' H' → DR X.K H0' d v → Q v H') → RE X e σ H Q
/-- .. that is new and nobody else's -/
def EO (X : Cx) (ρ : En) (e : Expr) (c : OC) : Prop := ∀ B0 B σ H0 H (Q : VK), J X.K B0 B σ H0 H ρ → (∀ a o H0' H', JH H0 H H0' H' → H' a = some o → H0' a = none → H a = none → OCR X.K H0' c o → Q (.ref a) H') → RE X e σ H Q
def TD (X : Cx) (ρ : En) (e : Expr) (b : Bool) : Prop := ∀ B0 B σ H0 H (Q : Bool → Hp → Prop), J X.K B0 B σ H0 H ρ → (∀ H0' H', JH H0 H H0' H' → Q b H') → RT X e σ H Q
def TW (X : Cx) (ρ : En) (e : Expr) (b : Bool) : Prop := ∀ B0 B σ H0 H (Q : Bool → Hp → Prop), J X.K B0 B σ H0 H ρ → (∀ H0' H', JH H0 H H0' H' → Q b H') → RW X e σ H Q
def AD (X : Cx) (ρ : En) (es : List Expr) (ds : List D) : Prop := ∀ B0 B σ H0 H (Q : List V → Hp → Prop), J X.K B0 B σ H0 H ρ → (∀ vs H0' H', JH H0 H H0' H' → DRs X.K H0' ds vs → Q vs H') → RA X es σ H Q
/-- by values: a binary operation, a call of a built-in -/
def O2 (K : PySem.W.Frag) (r : R2) (d e f : D) : Prop := ∀ H0 H x y (Q : VK), Same H0 H → DR K H0 d x → DR K H0 e y → (∀ v H0' H', JH H0 H H0' H' → DR K H0' f v → Q v H') → r x y H Q
structure B2 (X : Cx) (op : Operator) (d e f : D) : Prop where
  ex : ∃ r, OpR X (binaryOp op) r ∧ O2 X.K r d e f
structure C2 (X : Cx) (op : CmpOp) (d e f : D) : Prop where
  ex : ∃ r, OpR X (compareOp op) r ∧ O2 X.K r d e f
structure BC (X : Cx) (f : Value) (ds : List D) (d : D) : Prop where
  ex : ∃ r, CallR X f r ∧ ∀ H0 H vs (Q : VK), Same H0 H → DRs X.K H0 ds vs → (∀ v H0' H', JH H0 H H0' H' → DR X.K H0' d v → Q v H') → r vs H Q
structure BO (X : Cx) (f : Value) (ds : List D) (c : OC) : Prop where
  ex : ∃ r, CallR X f r ∧ ∀ H0 H vs (Q : VK), Same H0 H → DRs X.K H0 ds vs → (∀ a o H0' H', JH H0 H H0' H' → H' a = some o → H0' a = none → H a = none → OCR X.K H0' c o → Q (.ref a) H') → r vs H Q
section
variable {X : Cx} {ρ : En} {e a b c : Expr} {d d1 d2 d3 : D} {pos : Pos}
theorem ED.eq {d' : D} (h : ED X ρ e d) (q : d = d') : ED X ρ e d' := q ▸ h
theorem TD.eq {k k' : Bool} (h : TD X ρ e k) (q : k = k') : TD X ρ e k' := q ▸ h
theorem EO.eq {c c' : OC} (h : EO X ρ e c) (q : c = c') : EO X ρ e c' := q ▸ h
theorem DR.own {K : PySem.W.Frag} {H0 : Hp} {c : OC} {a : Addr} {o : HO} (n : H0 a = none) (h : OCR K H0 c o) : DR K (upd H0 a o) c.d (.ref a) := OCR.dr n h
/-- .. and is given to all at once -/
theorem JH.give {H0 H H0' H' : Hp} {a : Addr} {o : HO} (g : JH H0 H H0' H') (h : H' a = some o) (h0 : H0' a = none) (n : H a = none) : JH H0 H (upd H0' a o) H' := by
  refine ⟨fun b u e => upd_keep (g.s0 b u e) (ne_of_none (g.s0 b u e) h0), fun b u e => ?_, g.sB, fun b u e nt e' => ?_⟩
  · by_cases hb : b = a
    · subst hb; rw [upd_same] at e; cases e; exact h
    · rw [upd_ne hb] at e; exact g.sh b u e
  · rw [upd_ne (ne_of_none e n)]; exact g.fr b u e nt e'
theorem ed_own {c : OC} (h : EO X ρ e c) : ED X ρ e c.d := fun B0 B σ H0 H Q j k =>
  h B0 B σ H0 H Q j fun a o H0' H' g h1 h2 h3 r => k _ (upd H0' a o) H' (g.give h1 h2 h3) (DR.own h2 r)
theorem ed_lst {ds : List D} (h : EO X ρ e (.lst ds)) : ED X ρ e (.lst ds) := ed_own h
theorem ed_var (i : Nat) {x : Str} (hρ : ρ[i]? = some (.sh d)) (hN : X.N[i]? = some x := by rfl) (hv : Vis X.env.scope x := by first | exact Or.inl rfl | exact Or.inr (Or.inl rfl) | exact Or.inr (Or.inr rfl)) (hd : (x == ("__debug__" : Str)) = false := by decide)
    (hcd : (x == ("__classdict__" : Str)) = false := by decide) : ED X ρ (.Name x pos) d := fun B0 B σ H0 H Q j k => by
  obtain ⟨ov, h1, v, rfl, h2⟩ := j.get hρ
  exact RE.of (pe_var hN hv hd hcd) ⟨v, h1, k v H0 H (JH.refl j.same) h2⟩
theorem ed_int {i j} : ED X ρ (.Constant (.int i) j pos) (.int i) := fun B0 B σ H0 H Q j k => RE.of pe_int (k _ H0 H (JH.refl j.same) rfl)
theorem ed_bl {i j} : ED X ρ (.Constant (.bool i) j pos) (.bl i) := fun B0 B σ H0 H Q j k => RE.of pe_bl (k _ H0 H (JH.refl j.same) rfl)
theorem ed_non {j} : ED X ρ (.Constant .none j pos) .non := fun B0 B σ H0 H Q j k => RE.of pe_non (k _ H0 H (JH.refl j.same) rfl)
theorem ed_str {i j} : ED X ρ (.Constant (.str i) j pos) (.str i) := fun B0 B σ H0 H Q j k => RE.of pe_str (k _ H0 H (JH.refl j.same) rfl)
theorem ed_bin {op : Operator} (ha : ED X ρ a d1) (hb : ED X ρ b d2) (ho : B2 X op d1 d2 d) : ED X ρ (.BinOp a op b pos) d := fun B0 B σ H0 H Q j k => by
  obtain ⟨r, h1, h2⟩ := ho
  refine RE.of (pe_op h1 pe_star pe_star) (ha B0 B σ H0 H _ j fun x G0 G g1 r1 => ?_)
  refine hb B0 B σ G0 G _ (j.grow g1) fun y L0 L g2 r2 => ?_
  exact h2 L0 L x y Q g2.sh (DR.mono g2.s0 _ _ r1) r2 fun v M0 M g3 r3 => k v M0 M ((g1.trans g2).trans g3) r3
theorem ed_cmp {op : CmpOp} (ha : ED X ρ a d1) (hb : ED X ρ b d2) (ho : C2 X op d1 d2 d) (hm : behindInMarks op b = false := by first | exact nomark _ | rfl) : ED X ρ (.Compare a [op] [b] pos) d := fun B0 B σ H0 H Q j k => by
  obtain ⟨r, h1, h2⟩ := ho
  refine RE.of (pe_cmpR h1 pe_star pe_star hm) (ha B0 B σ H0 H _ j fun x G0 G g1 r1 => ?_)
  refine hb B0 B σ G0 G _ (j.grow g1) fun y L0 L g2 r2 => ?_
  exact h2 L0 L x y Q g2.sh (DR.mono g2.s0 _ _ r1) r2 fun v M0 M g3 r3 => k v M0 M ((g1.trans g2).trans g3) r3
theorem td_cmp {op : CmpOp} {k : Bool} (ha : ED X ρ a d1) (hb : ED X ρ b d2) (ho : C2 X op d1 d2 (.bl k)) (hm : behindInMarks op b = false := by first | exact nomark _ | rfl) : TD X ρ (.Compare a [op] [b] pos) k := fun B0 B σ H0 H Q j kk => by
  obtain ⟨r, h1, h2⟩ := ho
  refine RT.of (pt_cmpR h1 pe_star pe_star hm) (ha B0 B σ H0 H _ j fun x G0 G g1 r1 => ?_)
  refine hb B0 B σ G0 G _ (j.grow g1) fun y L0 L g2 r2 => ?_
  refine h2 L0 L x y _ g2.sh (DR.mono g2.s0 _ _ r1) r2 fun v M0 M g3 r3 => ⟨k, r3, kk M0 M ((g1.trans g2).trans g3)⟩
theorem ed_chain {op op' : CmpOp} {k k' : Bool} (ha : ED X ρ a d1) (hb : ED X ρ b d2) (hc : ED X ρ c d3) (ho : C2 X op d1 d2 (.bl k)) (ho' : C2 X op' d2 d3 (.bl k')) (hm : lastMarks [op, op'] [b, c] = false := by with_unfolding_all rfl) :
    ED X ρ (.Compare a [op, op'] [b, c] pos) (.bl (k && k')) := fun B0 B σ H0 H Q j kk => by
  obtain ⟨r, h1, h2⟩ := ho
  obtain ⟨r', h1', h2'⟩ := ho'
  refine RE.of (pe_chain h1 h1' pe_star pe_star pe_star hm) (ha B0 B σ H0 H _ j fun x G0 G g1 r1 => ?_)
  refine hb B0 B σ G0 G _ (j.grow g1) fun y L0 L g2 r2 => ?_
  refine h2 L0 L x y _ g2.sh (DR.mono g2.s0 _ _ r1) r2 fun v M0 M g3 r3 => ⟨k, r3, ?_⟩
  cases k with
  | false => exact iteF (kk _ M0 M ((g1.trans g2).trans g3) rfl)
  | true =>
    refine iteT (hc B0 B σ M0 M _ (((j.grow g1).grow g2).grow g3) fun z N0 N g4 r4 => ?_)
    exact h2' N0 N y z Q g4.sh (DR.mono (g3.trans g4).s0 _ _ r2) r4 fun v P0 P g5 r5 => kk v P0 P (((g1.trans g2).trans (g3.trans g4)).trans g5) (by simpa using r5)
theorem td_chain {op op' : CmpOp} {k k' : Bool} (ha : ED X ρ a d1) (hb : ED X ρ b d2) (hc : ED X ρ c d3) (ho : C2 X op d1 d2 (.bl k)) (ho' : C2 X op' d2 d3 (.bl k')) (hm : lastMarks [op, op'] [b, c] = false := by with_unfolding_all rfl) :
    TD X ρ (.Compare a [op, op'] [b, c] pos) (k && k') := fun B0 B σ H0 H Q j kk => by
  obtain ⟨r, h1, h2⟩ := ho
  obtain ⟨r', h1', h2'⟩ := ho'
  refine RT.of (pt_chain h1 h1' pe_star pe_star pe_star hm) (ha B0 B σ H0 H _ j fun x G0 G g1 r1 => ?_)
  refine hb B0 B σ G0 G _ (j.grow g1) fun y L0 L g2 r2 => ?_
  refine h2 L0 L x y _ g2.sh (DR.mono g2.s0 _ _ r1) r2 fun v M0 M g3 r3 => ⟨k, r3, ?_⟩
  cases k with
  | false => exact iteF ⟨_, rfl, kk M0 M ((g1.trans g2).trans g3)⟩
  | true =>
    refine iteT (hc B0 B σ M0 M _ (((j.grow g1).grow g2).grow g3) fun z N0 N g4 r4 => ?_)
    exact h2' N0 N y z _ g4.sh (DR.mono (g3.trans g4).s0 _ _ r2) r4 fun v P0 P g5 r5 => ⟨k', r5, kk P0 P (((g1.trans g2).trans (g3.trans g4)).trans g5)⟩
theorem td_not {k : Bool} (h : TD X ρ a k) : TD X ρ (.UnaryOp .Not a pos) (!k) := fun B0 B σ H0 H Q j kk =>
  RT.of (pt_not pt_star) (h B0 B σ H0 H _ j fun H0' H' g => kk H0' H' g)
theorem tw_and1 {k : Bool} (h : TD X ρ a k) : TW X ρ (.BoolOp .And [a] pos) k := fun B0 B σ H0 H Q j kk => ⟨_, pw_and1 pt_star, h B0 B σ H0 H _ j kk⟩
theorem tw_or1 {k : Bool} (h : TD X ρ a k) : TW X ρ (.BoolOp .Or [a] pos) k := fun B0 B σ H0 H Q j kk => ⟨_, pw_or1 pt_star, h B0 B σ H0 H _ j kk⟩
theorem tw_and {k k' : Bool} {rest : List Expr} (h : TD X ρ a k) (h' : k = true → TW X ρ (.BoolOp .And (b :: rest) pos) k') : TW X ρ (.BoolOp .And (a :: b :: rest) pos) (k && k') := fun B0 B σ H0 H Q j kk => by
  refine ⟨_, pw_and pt_star pw_star, h B0 B σ H0 H _ j fun H0' H' g => ?_⟩
  cases k with
  | false => exact iteF (kk H0' H' g)
  | true => exact iteT (h' rfl B0 B σ H0' H' _ (j.grow g) fun G0 G g2 => kk G0 G (g.trans g2))
theorem tw_or {k k' : Bool} {rest : List Expr} (h : TD X ρ a k) (h' : k = false → TW X ρ (.BoolOp .Or (b :: rest) pos) k') : TW X ρ (.BoolOp .Or (a :: b :: rest) pos) (k || k') := fun B0 B σ H0 H Q j kk => by
  refine ⟨_, pw_or pt_star pw_star, h B0 B σ H0 H _ j fun H0' H' g => ?_⟩
  cases k with
  | true => exact iteT (kk H0' H' g)
  | false => exact iteF (h' rfl B0 B σ H0' H' _ (j.grow g) fun G0 G g2 => kk G0 G (g.trans g2))
theorem td_tw {k : Bool} (h : TW X ρ e k) : TD X ρ e k := fun B0 B σ H0 H Q j kk => by
  obtain ⟨t, h1, h2⟩ := h B0 B σ H0 H Q j kk
  exact ⟨t, h1.pt, h2⟩
/-- and, or as values -/
theorem ed_one {op} (h : ED X ρ a d) : ED X ρ (.BoolOp op [a] pos) d := fun B0 B σ H0 H Q j kk => RE.of (pe_one pe_star) (h B0 B σ H0 H _ j kk)
theorem ed_and {k k' : Bool} {rest : List Expr} (h : ED X ρ a (.bl k)) (h' : k = true → ED X ρ (.BoolOp .And (b :: rest) pos) (.bl k')) : ED X ρ (.BoolOp .And (a :: b :: rest) pos) (.bl (k && k')) := fun B0 B σ H0 H Q j kk => by
  refine RE.of (pe_and pe_star pe_star) (h B0 B σ H0 H _ j fun v H0' H' g r => ⟨k, r, ?_⟩)
  cases k with
  | false => exact iteF (kk _ H0' H' g rfl)
  | true => exact iteT (h' rfl B0 B σ H0' H' _ (j.grow g) fun v G0 G g2 r2 => kk v G0 G (g.trans g2) r2)
theorem ed_or {k k' : Bool} {rest : List Expr} (h : ED X ρ a (.bl k)) (h' : k = false → ED X ρ (.BoolOp .Or (b :: rest) pos) (.bl k')) : ED X ρ (.BoolOp .Or (a :: b :: rest) pos) (.bl (k || k')) := fun B0 B σ H0 H Q j kk => by
  refine RE.of (pe_or pe_star pe_star) (h B0 B σ H0 H _ j fun v H0' H' g r => ⟨k, r, ?_⟩)
  cases k with
  | true => exact iteT (kk _ H0' H' g rfl)
  | false => exact iteF (h' rfl B0 B σ H0' H' _ (j.grow g) fun v G0 G g2 r2 => kk v G0 G (g.trans g2) r2)
theorem ed_if {k : Bool} (h : TD X ρ c k) (h1 : k = true → ED X ρ a d) (h2 : k = false → ED X ρ b d) : ED X ρ (.IfExp c a b pos) d := fun B0 B σ H0 H Q j kk => by
  refine RE.of (pe_ifExp pt_star pe_star pe_star) (h B0 B σ H0 H _ j fun H0' H' g => ?_)
  cases k with
  | true => exact iteT (h1 rfl B0 B σ H0' H' _ (j.grow g) fun v G0 G g2 r2 => kk v G0 G (g.trans g2) r2)
  | false => exact iteF (h2 rfl B0 B σ H0' H' _ (j.grow g) fun v G0 G g2 r2 => kk v G0 G (g.trans g2) r2)
theorem ed_neg {i : Int} (h : ED X ρ a (.int i)) : ED X ρ (.UnaryOp .USub a pos) (.int (-i)) := fun B0 B σ H0 H Q j kk =>
  RE.of (pe_un un_neg pe_star) (h B0 B σ H0 H _ j fun v H0' H' g r => ⟨i, r, kk _ H0' H' g rfl⟩)
theorem ad_nil : AD X ρ [] [] := fun B0 B σ H0 H Q j k => RA.of pa_nil (k [] H0 H (JH.refl j.same) rfl)
theorem ad_cons {es : List Expr} {ds : List D} (h : ED X ρ e d) (r : AD X ρ es ds) (hs : starEach (e :: es) X.env = (false, eval e X.env) :: starEach es X.env := by rfl) : AD X ρ (e :: es) (d :: ds) := fun B0 B σ H0 H Q j k =>
  RA.of (pa_cons pe_star pa_star hs) (h B0 B σ H0 H _ j fun v G0 G g1 r1 => r B0 B σ G0 G _ (j.grow g1) fun vs L0 L g2 r2 => k (v :: vs) L0 L (g1.trans g2) ⟨v, vs, rfl, DR.mono g2.s0 _ _ r1, r2⟩)
theorem ed_tup {es : List Expr} {ds : List D} {x1} (h : AD X ρ es ds) (hl : ds.length ≤ sizeLine := by first | decide | (simp only [List.length_cons, List.length_nil]; decide)) : ED X ρ (.Tuple es x1 pos) (.tup ds) := fun B0 B σ H0 H Q j k =>
  RE.of (pe_tup pa_star) (h B0 B σ H0 H _ j fun vs G0 G g r => ⟨by rw [← r.length]; exact hl, fun p hp => by
    have g2 : JH G0 G (upd G0 p (.tup vs)) (upd G p (.tup vs)) := JH.new g.sh hp
    exact k _ _ _ (g.trans g2) ⟨p, vs, rfl, SqT.of upd_same, DRs.mono g2.s0 _ _ r⟩⟩)
theorem eo_lst {es : List Expr} {ds : List D} (h : AD X ρ es ds) (hl : ds.length ≤ sizeLine := by first | decide | (simp only [List.length_cons, List.length_nil]; decide)) : EO X ρ (.List es pos) (.lst ds) := fun B0 B σ H0 H Q j k =>
  RE.of (pe_lst pa_star) (h B0 B σ H0 H _ j fun vs G0 G g r => ⟨by rw [← r.length]; exact hl, fun p hp => by
    have g2 : JH G0 G G0 (upd G p (.lst vs)) := JH.own g.sh hp
    exact k p _ _ _ (g.trans g2) upd_same (g.sh.free hp) (g.sB.free hp) ⟨vs, rfl, r⟩⟩)
theorem eo_dk : EO X ρ (.Dict [] [] pos) (.dk [] []) := fun B0 B σ H0 H Q j k =>
  RE.of pe_dnewK fun p hp => k p _ _ _ (JH.own j.same hp) upd_same (j.same.free hp) hp ⟨[], rfl, rfl, rfl⟩
def spR (K : PySem.W.Frag) (R : List D → D → Prop) : Sp := fun vs H Q _ => ∃ H0 ds d, Same H0 H ∧ DRs K H0 ds vs ∧ R ds d ∧ ∀ r H0' H', JH H0 H H0' H' → DR K H0' d r → Q r H'
/-- a def of the program at hand -/
structure Fn (P : Program) (w : World) (K : PySem.W.Frag) (mg : Str → Option Value) (base : Heap) (x : Str) (k : Nat) (R : List D → D → Prop) : Prop where
  ex : ∃ f fd ps, FnOk P w K mg base CX0 k f fd ps (spR K R) ∧ mg x = some (.ref f) ∧ PySem.W.keepIn K (.ref f) = true ∧ Binds K fd ps []
theorem ed_call {x : Str} {k : Nat} {R : List D → D → Prop} {es : List Expr} {ds : List D} {p : Pos} (G : Fn X.prog X.w X.K X.mg X.base x k R) (hr : Room k X.A) (hg : Gl X x) (ha : AD X ρ (e :: es) ds) (hR : R ds d)
    (hdb : (x == ("__debug__" : Str)) = false := by decide) (he : starEach (e :: es) X.env = (false, eval e X.env) :: starEach es X.env := by rfl) (hpl : (backTo pos (starEach es X.env)).any (·.1) = false := by rfl) :
    ED X ρ (.Call (.Name x p) (e :: es) [] pos) d := fun B0 B σ H0 H Q j kk => by
  obtain ⟨f, fd, ps, F, hm, hk, hb⟩ := G.ex
  refine RE.of (pe_call (E := E0) F hr hg hm hk hb .nil pass0 pa_star hdb he hpl) (ha B0 B σ H0 H _ j fun vs G0 G g r => ?_)
  rw [List.append_nil]
  exact ⟨G0, ds, d, g.sh, r, hR, fun v L0 L g2 r2 => kk v L0 L (g.trans g2) r2⟩
theorem ed_callB {x : Str} {id : String} {es : List Expr} {ds : List D} {p : Pos} (hg : Gl X x) (hm : X.mg x = none) (hv : bootBuiltins x = some (.builtin id)) (ha : AD X ρ (e :: es) ds) (h : BC X (.builtin id) ds d) (hn : x ≠ "__name__" := by decide) (hdb : (x == ("__debug__" : Str)) = false := by decide)
    (he : starEach (e :: es) X.env = (false, eval e X.env) :: starEach es X.env := by rfl) (hpl : (backTo pos (starEach es X.env)).any (·.1) = false := by rfl) : ED X ρ (.Call (.Name x p) (e :: es) [] pos) d := fun B0 B σ H0 H Q j kk => by
  obtain ⟨r, h1, h2⟩ := h
  exact RE.of (pe_callB h1 hg hm hv pa_star hn hdb he hpl) (ha B0 B σ H0 H _ j fun vs G0 G g r => h2 G0 G vs Q g.sh r fun v L0 L g2 r2 => kk v L0 L (g.trans g2) r2)
theorem ed_callT {x : Str} {T : String} {es : List Expr} {ds : List D} {p : Pos} (hg : Gl X x) (hm : X.mg x = none) (hv : bootBuiltins x = some (.type T)) (ha : AD X ρ (e :: es) ds) (h : BC X (.type T) ds d) (hn : x ≠ "__name__" := by decide) (hdb : (x == ("__debug__" : Str)) = false := by decide)
    (he : starEach (e :: es) X.env = (false, eval e X.env) :: starEach es X.env := by rfl) (hpl : (backTo pos (starEach es X.env)).any (·.1) = false := by rfl) : ED X ρ (.Call (.Name x p) (e :: es) [] pos) d := fun B0 B σ H0 H Q j kk => by
  obtain ⟨r, h1, h2⟩ := h
  exact RE.of (pe_callTy h1 hg hm hv pa_star hn hdb he hpl) (ha B0 B σ H0 H _ j fun vs G0 G g r => h2 G0 G vs Q g.sh r fun v L0 L g2 r2 => kk v L0 L (g.trans g2) r2)
theorem eo_callT {x : Str} {T : String} {es : List Expr} {ds : List D} {c : OC} {p : Pos} (hg : Gl X x) (hm : X.mg x = none) (hv : bootBuiltins x = some (.type T)) (ha : AD X ρ (e :: es) ds) (h : BO X (.type T) ds c) (hn : x ≠ "__name__" := by decide) (hdb : (x == ("__debug__" : Str)) = false := by decide)
    (he : starEach (e :: es) X.env = (false, eval e X.env) :: starEach es X.env := by rfl) (hpl : (backTo pos (starEach es X.env)).any (·.1) = false := by rfl) : EO X ρ (.Call (.Name x p) (e :: es) [] pos) c := fun B0 B σ H0 H Q j kk => by
  obtain ⟨r, h1, h2⟩ := h
  exact RE.of (pe_callTy h1 hg hm hv pa_star hn hdb he hpl) (ha B0 B σ H0 H _ j fun vs G0 G g r => h2 G0 G vs Q g.sh r fun a o L0 L g2 h3 h4 h5 r2 => kk a o L0 L (g.trans g2) h3 h4 (g.sB.free h5) r2)
end
section
variable {X : Cx}
theorem o2_keep {K : PySem.W.Frag} {r : R2} {d e f : D} (v : V) (hv : ∀ H0 : Hp, DR K H0 f v) (h : ∀ H0 H x y (Q : VK), Same H0 H → DR K H0 d x → DR K H0 e y → Q v H → r x y H Q) : O2 K r d e f := fun H0 H x y Q s r1 r2 k =>
  h H0 H x y Q s r1 r2 (k v H0 H (JH.refl s) (hv H0))
theorem b2_add {i j : Int} : B2 X .Add (.int i) (.int j) (.int (i + j)) := ⟨_, op_add, o2_keep _ (fun _ => rfl) fun _ _ _ _ _ _ r1 r2 q => ⟨i, j, r1, r2, q⟩⟩
theorem b2_sub {i j : Int} : B2 X .Sub (.int i) (.int j) (.int (i - j)) := ⟨_, op_sub, o2_keep _ (fun _ => rfl) fun _ _ _ _ _ _ r1 r2 q => ⟨i, j, r1, r2, q⟩⟩
theorem b2_mul {i j : Int} (h : CMul i j) : B2 X .Mult (.int i) (.int j) (.int (i * j)) := ⟨_, op_mul, o2_keep _ (fun _ => rfl) fun _ _ _ _ _ _ r1 r2 q => ⟨i, j, r1, r2, h, q⟩⟩
theorem b2_fdiv {i j : Int} (h : CDiv i j) : B2 X .FloorDiv (.int i) (.int j) (.int (i / j)) := ⟨_, op_fdiv, o2_keep _ (fun _ => rfl) fun _ _ _ _ _ _ r1 r2 q => ⟨i, j, r1, r2, h, q⟩⟩
theorem b2_mod {i j : Int} (h : 0 < j) : B2 X .Mod (.int i) (.int j) (.int (i % j)) := ⟨_, op_mod, o2_keep _ (fun _ => rfl) fun _ _ _ _ _ _ r1 r2 q => ⟨i, j, r1, r2, h, q⟩⟩
theorem b2_pow {i j : Int} (h : CPow i j) : B2 X .Pow (.int i) (.int j) (.int (i ^ j.toNat)) := ⟨_, op_pow, o2_keep _ (fun _ => rfl) fun _ _ _ _ _ _ r1 r2 q => ⟨i, j, r1, r2, h, q⟩⟩
theorem b2_addS {i j : Str} (h : i.length + j.length ≤ sizeLine) : B2 X .Add (.str i) (.str j) (.str (i ++ j)) := ⟨_, op_add_str, o2_keep _ (fun _ => rfl) fun _ _ _ _ _ _ r1 r2 q => ⟨i, j, r1, r2, h, q⟩⟩
theorem c2_lt {i j : Int} : C2 X .Lt (.int i) (.int j) (.bl (decide (i < j))) := ⟨_, op_lt, o2_keep _ (fun _ => rfl) fun _ _ _ _ _ _ r1 r2 q => ⟨i, j, r1, r2, q⟩⟩
theorem c2_le {i j : Int} : C2 X .LtE (.int i) (.int j) (.bl (decide (i ≤ j))) := ⟨_, op_le, o2_keep _ (fun _ => rfl) fun _ _ _ _ _ _ r1 r2 q => ⟨i, j, r1, r2, q⟩⟩
theorem c2_gt {i j : Int} : C2 X .Gt (.int i) (.int j) (.bl (decide (j < i))) := ⟨_, op_gt, o2_keep _ (fun _ => rfl) fun _ _ _ _ _ _ r1 r2 q => ⟨i, j, r1, r2, q⟩⟩
theorem c2_ge {i j : Int} : C2 X .GtE (.int i) (.int j) (.bl (decide (j ≤ i))) := ⟨_, op_ge, o2_keep _ (fun _ => rfl) fun _ _ _ _ _ _ r1 r2 q => ⟨i, j, r1, r2, q⟩⟩
theorem c2_eqI {i j : Int} : C2 X .Eq (.int i) (.int j) (.bl (decide (i = j))) := ⟨_, op_eq, fun H0 H x y Q s r1 r2 k => by
  cases (show x = .int i from r1); cases (show y = .int j from r2)
  exact ⟨rfl, k _ H0 H (JH.refl s) (by simp [DR])⟩⟩
theorem c2_neI {i j : Int} : C2 X .NotEq (.int i) (.int j) (.bl (!decide (i = j))) := ⟨_, op_ne, fun H0 H x y Q s r1 r2 k => by
  cases (show x = .int i from r1); cases (show y = .int j from r2)
  exact ⟨rfl, k _ H0 H (JH.refl s) (by simp [DR])⟩⟩
theorem c2_eqS {i j : Str} : C2 X .Eq (.str i) (.str j) (.bl (decide (i = j))) := ⟨_, op_eq, fun H0 H x y Q s r1 r2 k => by
  cases (show x = .str i from r1); cases (show y = .str j from r2)
  exact ⟨rfl, k _ H0 H (JH.refl s) (by simp [DR])⟩⟩
theorem c2_neS {i j : Str} : C2 X .NotEq (.str i) (.str j) (.bl (!decide (i = j))) := ⟨_, op_ne, fun H0 H x y Q s r1 r2 k => by
  cases (show x = .str i from r1); cases (show y = .str j from r2)
  exact ⟨rfl, k _ H0 H (JH.refl s) (by simp [DR])⟩⟩
theorem c2_eqB {i j : Bool} : C2 X .Eq (.bl i) (.bl j) (.bl (decide (i = j))) := ⟨_, op_eq, fun H0 H x y Q s r1 r2 k => by
  cases (show x = .bl i from r1); cases (show y = .bl j from r2)
  exact ⟨rfl, k _ H0 H (JH.refl s) (by simp [DR])⟩⟩
theorem c2_neB {i j : Bool} : C2 X .NotEq (.bl i) (.bl j) (.bl (!decide (i = j))) := ⟨_, op_ne, fun H0 H x y Q s r1 r2 k => by
  cases (show x = .bl i from r1); cases (show y = .bl j from r2)
  exact ⟨rfl, k _ H0 H (JH.refl s) (by simp [DR])⟩⟩
theorem c2_isB {i j : Bool} : C2 X .Is (.bl i) (.bl j) (.bl (decide (i = j))) := ⟨_, op_isBl, o2_keep _ (fun _ => rfl) fun _ _ _ _ _ _ r1 r2 q => ⟨i, j, r1, r2, q⟩⟩
theorem c2_notB {i j : Bool} : C2 X .IsNot (.bl i) (.bl j) (.bl (!decide (i = j))) := ⟨_, op_notBl, o2_keep _ (fun _ => rfl) fun _ _ _ _ _ _ r1 r2 q => ⟨i, j, r1, r2, q⟩⟩
def isNon : D → Bool
  | .non => true
  | _ => false
theorem DR.non {K : PySem.W.Frag} {H : Hp} {d : D} {v : V} (h : DR K H d v) : decide (v = .non) = isNon d := by
  cases d with
  | non => cases (show v = .non from h); rfl
  | bl _ => cases (show v = .bl _ from h); rfl
  | int _ => cases (show v = .int _ from h); rfl
  | str _ => cases (show v = .str _ from h); rfl
  | ty _ => cases (show v = .ty _ from h); rfl
  | lst _ => obtain ⟨_, _, rfl, _⟩ := h; rfl
  | tup _ => obtain ⟨_, _, rfl, _⟩ := h; rfl
  | dk _ _ => obtain ⟨_, _, rfl, _⟩ := h; rfl
  | dt _ _ => obtain ⟨_, _, rfl, _⟩ := h; rfl
  | obj _ _ _ => obtain ⟨_, _, _, _, rfl, _⟩ := h; rfl
  | ad _ => cases (show v = .ref _ from h); rfl
  | ptp _ => obtain ⟨_, _, _, rfl, _⟩ := h; rfl
  | etp _ => obtain ⟨_, _, rfl, _⟩ := h; rfl
  | exc _ _ _ _ => obtain ⟨rfl, _⟩ := h; rfl
theorem c2_isN {d : D} : C2 X .Is d .non (.bl (isNon d)) := ⟨_, op_isN, fun H0 H x y Q s r1 r2 k => ⟨r2, k _ H0 H (JH.refl s) (by rw [r1.non]; rfl)⟩⟩
theorem c2_notN {d : D} : C2 X .IsNot d .non (.bl (!isNon d)) := ⟨_, op_notN, fun H0 H x y Q s r1 r2 k => ⟨r2, k _ H0 H (JH.refl s) (by rw [r1.non]; rfl)⟩⟩
mutual
def D.py : D → PyData
  | .non => .none
  | .bl b => .bool b
  | .int i => .int i
  | .str x => .str x
  | .lst ds => .list (D.pys ds)
  | .tup ds => .tuple (D.pys ds)
  | .dk _ _ => .none
  | .dt _ _ => .none
  | .obj _ _ _ => .none
  | .ad _ => .none
  | .ptp _ => .none
  | .etp _ => .none
  | .exc _ _ _ _ => .none
  | .ty _ => .none
def D.pys : List D → List PyData
  | [] => []
  | d :: ds => D.py d :: D.pys ds
end
mutual
def D.plain : D → Bool
  | .lst ds => D.plains ds
  | .tup ds => D.plains ds
  | .dk _ _ => false
  | .dt _ _ => false
  | .obj _ _ _ => false
  | .ad _ => false
  | .ptp _ => false
  | .etp _ => false
  | .exc _ _ _ _ => false
  | .ty _ => false
  | _ => true
def D.plains : List D → Bool
  | [] => true
  | d :: ds => D.plain d && D.plains ds
end
mutual
theorem DR.dp {K : PySem.W.Frag} {H : Hp} : ∀ (d : D) (v : V), d.plain = true → DR K H d v → Dp K H v d.py
  | .non, v, _, h => by cases (show v = .non from h); exact .non
  | .bl b, v, _, h => by cases (show v = .bl b from h); exact .bl b
  | .int b, v, _, h => by cases (show v = .int b from h); exact .int b
  | .str b, v, _, h => by cases (show v = .str b from h); exact .str b
  | .lst ds, v, p, h => by
    obtain ⟨a, vs, rfl, h2, h3⟩ := h
    exact .lst h2 (DRs.dp ds vs (by simpa [D.plain] using p) h3)
  | .tup ds, v, p, h => by
    obtain ⟨a, vs, rfl, h2, h3⟩ := h
    exact .tup h2 (DRs.dp ds vs (by simpa [D.plain] using p) h3)
  | .dk _ _, v, p, h => by simp [D.plain] at p
  | .dt _ _, v, p, h => by simp [D.plain] at p
  | .obj _ _ _, v, p, h => by simp [D.plain] at p
  | .ad _, v, p, h => by simp [D.plain] at p
  | .ptp _, v, p, h => by simp [D.plain] at p
  | .etp _, v, p, h => by simp [D.plain] at p
  | .exc _ _ _ _, v, p, h => by simp [D.plain] at p
  | .ty _, v, p, h => by simp [D.plain] at p
theorem DRs.dp {K : PySem.W.Frag} {H : Hp} : ∀ (ds : List D) (vs : List V), D.plains ds = true → DRs K H ds vs → DpAll K H vs (D.pys ds)
  | [], vs, _, h => by cases (show vs = [] from h); exact .nil
  | d :: ds, vs, p, h => by
    obtain ⟨v, r, rfl, h2, h3⟩ := h
    simp only [D.plains, Bool.and_eq_true] at p
    exact .cons (DR.dp d v p.1 h2) (DRs.dp ds r p.2 h3)
end
/-- data that == may be asked of -/
structure Cmp (d : D) : Prop where
  p : d.plain = true
  s : SeqAt.shaped d.py = true
theorem c2_eqD {d e : D} {k : Bool} (hu : X.A.units + 64 < cLine) (hd : Cmp d) (he : Cmp e) (h : PyData.eqv d.py e.py = k) : C2 X .Eq d e (.bl k) := ⟨_, op_eqD hu, fun H0 H x y Q s r1 r2 kk =>
  ⟨d.py, e.py, DR.dp _ _ hd.p (DR.mono s _ _ r1), DR.dp _ _ he.p (DR.mono s _ _ r2), hd.s, he.s, kk _ H0 H (JH.refl s) (by rw [h]; rfl)⟩⟩
theorem c2_neD {d e : D} {k : Bool} (hu : X.A.units + 64 < cLine) (hd : Cmp d) (he : Cmp e) (h : PyData.eqv d.py e.py = k) : C2 X .NotEq d e (.bl (!k)) := ⟨_, op_neD hu, fun H0 H x y Q s r1 r2 kk =>
  ⟨d.py, e.py, DR.dp _ _ hd.p (DR.mono s _ _ r1), DR.dp _ _ he.p (DR.mono s _ _ r2), hd.s, he.s, kk _ H0 H (JH.refl s) (by rw [h]; rfl)⟩⟩
theorem ix_t {ds : List D} {i : Int} {d : D} {ρ : En} {a b : Expr} {pos : Pos} (ha : ED X ρ a (.tup ds)) (hb : ED X ρ b (.int i)) (h : atI ds i = some d) (hs : PlainIx b := by exact fun _ _ => rfl) : ED X ρ (.Subscript a b pos) d := fun B0 B σ H0 H Q j kk => by
  refine RE.of (pe_ix ix_tup pe_star pe_star hs) (ha B0 B σ H0 H _ j fun x G0 G g1 r1 => hb B0 B σ G0 G _ (j.grow g1) fun y L0 L g2 r2 => ?_)
  obtain ⟨p, vs, rfl, h1, h2⟩ := DR.mono g2.s0 _ _ r1
  obtain ⟨k, e1, e2, _⟩ := atI_get h
  obtain ⟨v, h3, h4⟩ := DRs.get h2 e2
  have e4 : atI vs i = some v := by
    unfold atI at h ⊢
    rw [← DRs.length h2]
    cases q : ixN ds.length i with
    | none => rw [q] at h; cases h
    | some m =>
      rw [q] at h
      obtain ⟨v', h5, h6⟩ := DRs.get h2 (show ds[m]? = some d from h)
      show vs[m]? = some v
      have := (ixN_seq q).1
      rw [e1] at this
      cases this
      exact h3
  exact ⟨p, vs, i, v, rfl, r2, Same.seqT g2.sh h1, e4, kk v L0 L (g1.trans g2) h4⟩
theorem ix_l {ds : List D} {i : Int} {d : D} {ρ : En} {a b : Expr} {pos : Pos} (ha : ED X ρ a (.lst ds)) (hb : ED X ρ b (.int i)) (h : atI ds i = some d) (hs : PlainIx b := by exact fun _ _ => rfl) : ED X ρ (.Subscript a b pos) d := fun B0 B σ H0 H Q j kk => by
  refine RE.of (pe_ix ix_list pe_star pe_star hs) (ha B0 B σ H0 H _ j fun x G0 G g1 r1 => hb B0 B σ G0 G _ (j.grow g1) fun y L0 L g2 r2 => ?_)
  obtain ⟨p, vs, rfl, h1, h2⟩ := DR.mono g2.s0 _ _ r1
  obtain ⟨k, e1, e2, _⟩ := atI_get h
  obtain ⟨v, h3, h4⟩ := DRs.get h2 e2
  have e4 : atI vs i = some v := by
    unfold atI at h ⊢
    rw [← DRs.length h2]
    cases q : ixN ds.length i with
    | none => rw [q] at h; cases h
    | some m =>
      rw [q] at h
      show vs[m]? = some v
      have := (ixN_seq q).1
      rw [e1] at this
      cases this
      exact h3
  exact ⟨p, vs, i, v, rfl, r2, g2.sh.seq h1, e4, kk v L0 L (g1.trans g2) h4⟩
theorem bc_keep {f : Value} {ds : List D} {d : D} {r : List V → Hp → VK → Prop} (c : CallR X f r) (v : V) (hv : ∀ H0 : Hp, DR X.K H0 d v) (h : ∀ H0 H vs (Q : VK), Same H0 H → DRs X.K H0 ds vs → Q v H → r vs H Q) : BC X f ds d :=
  ⟨r, c, fun H0 H vs Q s r1 k => h H0 H vs Q s r1 (k v H0 H (JH.refl s) (hv H0))⟩
theorem DRs.two {K : PySem.W.Frag} {H : Hp} {d e : D} {vs : List V} (h : DRs K H [d, e] vs) : ∃ x y, vs = [x, y] ∧ DR K H d x ∧ DR K H e y := by
  obtain ⟨x, r, rfl, h1, h2⟩ := h
  obtain ⟨y, r, rfl, h3, h4⟩ := h2
  cases (show r = [] from h4)
  exact ⟨x, y, rfl, h1, h3⟩
theorem DRs.one' {K : PySem.W.Frag} {H : Hp} {d : D} {vs : List V} (h : DRs K H [d] vs) : ∃ x, vs = [x] ∧ DR K H d x := by
  obtain ⟨x, r, rfl, h1, h2⟩ := h
  cases (show r = [] from h2)
  exact ⟨x, rfl, h1⟩
theorem bc_int {i : Int} : BC X (.type "int") [.int i] (.int i) := bc_keep call_int1 _ (fun _ => rfl) fun _ _ vs _ _ r q => by
  obtain ⟨x, rfl, h⟩ := r.one'
  cases (show x = .int i from h)
  exact .inl ⟨i, rfl, q⟩
theorem bc_min2 {i j : Int} (hc : X.calm = true) : BC X (.builtin "min") [.int i, .int j] (.int (min i j)) := bc_keep (call_min2 hc) _ (fun _ => rfl) fun _ _ vs _ _ r q => by
  obtain ⟨x, y, rfl, h, h'⟩ := r.two
  cases (show x = .int i from h); cases (show y = .int j from h')
  have e : min i j = (if j < i then j else i) := by split <;> omega
  exact ⟨i, j, rfl, by rw [← e]; exact q⟩
theorem bc_max2 {i j : Int} (hc : X.calm = true) : BC X (.builtin "max") [.int i, .int j] (.int (max i j)) := bc_keep (call_max2 hc) _ (fun _ => rfl) fun _ _ vs _ _ r q => by
  obtain ⟨x, y, rfl, h, h'⟩ := r.two
  cases (show x = .int i from h); cases (show y = .int j from h')
  have e : max i j = (if j > i then j else i) := by split <;> omega
  exact ⟨i, j, rfl, by rw [← e]; exact q⟩
theorem bc_lenL {ds : List D} : BC X (.builtin "len") [.lst ds] (.int ds.length) := bc_keep call_len_seq _ (fun _ => rfl) fun _ _ vs _ s r q => by
  obtain ⟨x, rfl, a, ys, rfl, h1, h2⟩ := r.one'
  exact ⟨a, ys, rfl, .inl (s.seq h1), by rw [← DRs.length h2]; exact q⟩
theorem bc_lenT {ds : List D} : BC X (.builtin "len") [.tup ds] (.int ds.length) := bc_keep call_len_seq _ (fun _ => rfl) fun _ _ vs _ s r q => by
  obtain ⟨x, rfl, a, ys, rfl, h1, h2⟩ := r.one'
  exact ⟨a, ys, rfl, .inr (Same.seqT s h1), by rw [← DRs.length h2]; exact q⟩
theorem bc_lenS {z : Str} (h : z.length ≤ sizeLine) : BC X (.builtin "len") [.str z] (.int z.length) := bc_keep call_len_str _ (fun _ => rfl) fun _ _ vs _ s r q => by
  obtain ⟨x, rfl, h1⟩ := r.one'
  exact ⟨z, by rw [show x = .str z from h1], h, q⟩
theorem bc_tupL {ds : List D} : BC X (.type "tuple") [.lst ds] (.tup ds) := ⟨_, call_tuple_of, fun H0 H vs Q s r k => by
  obtain ⟨x, rfl, a, ys, rfl, h1, h2⟩ := r.one'
  exact ⟨a, ys, rfl, .inl ⟨s.seq h1, fun l hl => k _ (upd H0 l (.tup ys)) _ (JH.new s hl) ⟨l, ys, rfl, SqT.of upd_same, DRs.mono (JH.new s hl).s0 _ _ h2⟩⟩⟩⟩
theorem bc_tupT {ds : List D} : BC X (.type "tuple") [.tup ds] (.tup ds) := ⟨_, call_tuple_of, fun H0 H vs Q s r k => by
  obtain ⟨x, rfl, a, ys, rfl, h1, h2⟩ := r.one'
  exact ⟨a, ys, rfl, .inr ⟨Same.seqT s h1, k _ H0 H (JH.refl s) ⟨a, ys, rfl, h1, h2⟩⟩⟩⟩
theorem bo_listL {ds : List D} : BO X (.type "list") [.lst ds] (.lst ds) := ⟨_, call_list_of, fun H0 H vs Q s r k => by
  obtain ⟨x, rfl, a, ys, rfl, h1, h2⟩ := r.one'
  exact ⟨a, ys, rfl, .inl (s.seq h1), fun l hl => k l _ _ _ (JH.own s hl) upd_same (s.free hl) hl ⟨ys, rfl, h2⟩⟩⟩
theorem bo_listT {ds : List D} : BO X (.type "list") [.tup ds] (.lst ds) := ⟨_, call_list_of, fun H0 H vs Q s r k => by
  obtain ⟨x, rfl, a, ys, rfl, h1, h2⟩ := r.one'
  exact ⟨a, ys, rfl, .inr (Same.seqT s h1), fun l hl => k l _ _ _ (JH.own s hl) upd_same (s.free hl) hl ⟨ys, rfl, h2⟩⟩⟩
theorem bc_sum {ns : List Int} (hc : X.calm = true) : BC X (.builtin "sum") [.lst (ns.map D.int)] (.int ns.sum) := bc_keep (cr_sum hc) _ (fun _ => rfl) fun _ _ vs _ s r q => by
  obtain ⟨x, rfl, a, ys, rfl, h1, h2⟩ := r.one'
  rw [DRs.ints h2] at h1
  exact ⟨a, ns, rfl, s.seq h1, q⟩
theorem bc_all {bs : List Bool} (hc : X.calm = true) : BC X (.builtin "all") [.lst (bs.map D.bl)] (.bl (bs.all id)) := bc_keep (cr_all hc) _ (fun _ => rfl) fun _ _ vs _ s r q => by
  obtain ⟨x, rfl, a, ys, rfl, h1, h2⟩ := r.one'
  rw [DRs.bls h2] at h1
  exact ⟨a, bs, rfl, s.seq h1, q⟩
end
end DL
namespace DL
open PySem PySem.Spec L2
def DG (X : Cx) (is : List Nat) (tg : Expr) (d : D) (ρ ρ' : En) : Prop := ∀ B0 B σ H0 H v (Q : St → Hp → Prop), J X.K B0 B σ H0 H ρ → DR X.K H0 d v → (∀ σ', J X.K B0 B σ' H0 H ρ' → (∀ k, k ∉ is → σ'[k]? = σ[k]?) → Q σ' H) → RG X tg v σ H Q
def DGs (X : Cx) (is : List Nat) (ts : List Expr) (ds : List D) (ρ ρ' : En) : Prop := ∀ B0 B σ H0 H vs (Q : St → Hp → Prop), J X.K B0 B σ H0 H ρ → DRs X.K H0 ds vs → (∀ σ', J X.K B0 B σ' H0 H ρ' → (∀ k, k ∉ is → σ'[k]? = σ[k]?) → Q σ' H) → RGs X ts vs σ H Q
section
variable {X : Cx} {ρ ρ' ρ2 : En} {e a b c : Expr} {d d1 d2 d3 : D} {pos : Pos}
theorem dg_name (i : Nat) {x : Str} (hN : X.N.Nodup) (hi : X.N[i]? = some x := by rfl) (hx : Loc X.env.scope x := by first | exact Or.inl rfl | exact Or.inr rfl) (hf : X.fn x = true ∨ X.env.scope.names.lookup x = some .local := by first | exact .inl rfl | exact .inr rfl) :
    DG X [i] (.Name x pos) d ρ (ρ.set i (.sh d)) := fun B0 B σ H0 H v Q j r k => by
  refine ⟨_, pg_name hN hi hx hf, k _ (j.setSh r) fun m hm => ?_⟩
  rw [List.getElem?_set_ne (fun e => hm (by simp [e]))]
theorem dgs_nil : DGs X [] [] [] ρ ρ := fun B0 B σ H0 H vs Q j r k => by
  cases (show vs = [] from r)
  exact ⟨_, pgs_nil, rfl, k σ j fun _ _ => rfl⟩
theorem dgs_cons {is is' : List Nat} {es : List Expr} {ds : List D} (h : DG X is e d ρ ρ') (r : DGs X is' es ds ρ' ρ2) (hs : (assignEach (e :: es) X.env).map (·.2) = assign e X.env :: (assignEach es X.env).map (·.2) := by rfl) :
    DGs X (is ++ is') (e :: es) (d :: ds) ρ ρ2 := fun B0 B σ H0 H vs Q j rr k => by
  obtain ⟨v, ws, rfl, r1, r2⟩ := rr
  refine ⟨_, pgs_cons pg_star pgs_star hs, v, ws, rfl, h B0 B σ H0 H v _ j r1 fun σ1 j1 k1 => r B0 B σ1 H0 H ws _ j1 r2 fun σ2 j2 k2 => k σ2 j2 fun m hm => ?_⟩
  rw [k2 m (fun z => hm (by simp [z])), k1 m (fun z => hm (by simp [z]))]
theorem dg_tup {is : List Nat} {es : List Expr} {ds : List D} {k1 : Nat} {n : Nat} (hc : X.calm = true) (h : DGs X is es ds ρ ρ') (hl : ds.length = n := by rfl) (hn : (assignEach es X.env).length = n := by rfl) (hst : (assignEach es X.env).findIdx? (·.1) = none := by rfl) :
    DG X is (.Tuple es k1 pos) (.tup ds) ρ ρ' := fun B0 B σ H0 H v Q j r k => by
  obtain ⟨p, vs, rfl, h1, h2⟩ := r
  exact ⟨_, pg_tup hc pgs_star hn hst, p, vs, rfl, Same.seqT j.same h1, by rw [← DRs.length h2]; exact hl, h B0 B σ H0 H vs Q j h2 k⟩
def DWalk (K : PySem.W.Frag) (Jt : It) (H0 : Hp) (ds : List D) : Prop := ∃ G Y, Walk Jt ds.length G Y ∧ (∀ H1 H, Same H0 H1 → Same H1 H → G H) ∧
  ∀ i H1 H x H' d, ds[i]? = some d → Same H0 H1 → Same H1 H → Y i H x H' → ∃ H1', JH H1 H H1' H' ∧ DR K H1' d x
def ID (X : Cx) (ρ : En) (tg iter : Expr) (ds : List D) : Prop := ∀ B0 B σ H0 H R, J X.K B0 B σ H0 H ρ → (∀ Jt H0' H', JH H0 H H0' H' → DWalk X.K Jt H0' ds → R Jt H') → RI X tg iter σ H R
theorem dw_list {K : PySem.W.Frag} {H0 : Hp} {p : Addr} {vs : List V} {ds : List D} (h : SqL K H0 p vs) (r : DRs K H0 ds vs) : DWalk K (Itl K p) H0 ds := by
  refine ⟨_, _, (by rw [DRs.length r]; exact walk_list (xs := vs)), fun H1 H s1 s2 => (s1.trans s2).seq h, fun i H1 H x H' d hd s1 s2 y => ?_⟩
  obtain ⟨rfl, hx⟩ := y
  obtain ⟨v, h1, h2⟩ := DRs.get r hd
  rw [hx] at h1; cases h1
  exact ⟨H1, JH.refl s2, DR.mono s1 _ _ h2⟩
theorem dw_tup {K : PySem.W.Frag} {H0 : Hp} {p : Addr} {vs : List V} {ds : List D} (h : SqT K H0 p vs) (r : DRs K H0 ds vs) : DWalk K (Itt K p) H0 ds := by
  refine ⟨_, _, (by rw [DRs.length r]; exact walk_tup (xs := vs)), fun H1 H s1 s2 => Same.seqT (s1.trans s2) h, fun i H1 H x H' d hd s1 s2 y => ?_⟩
  obtain ⟨rfl, hx⟩ := y
  obtain ⟨v, h1, h2⟩ := DRs.get r hd
  rw [hx] at h1; cases h1
  exact ⟨H1, JH.refl s2, DR.mono s1 _ _ h2⟩
/-- lo, lo + 1, .. -/
def rngD (lo : Int) (n : Nat) : List D := (List.range n).map fun (i : Nat) => D.int (lo + (i : Int))
theorem rngD_len (lo : Int) (n : Nat) : (rngD lo n).length = n := by simp [rngD]
theorem rngD_get {lo : Int} {n i : Nat} {d : D} (h : (rngD lo n)[i]? = some d) : i < n ∧ d = .int (lo + i) := by
  have hi : i < n := by have := (List.getElem?_eq_some_iff.mp h).1; rwa [rngD_len] at this
  refine ⟨hi, ?_⟩
  simp [rngD, List.getElem?_map, List.getElem?_range hi] at h
  exact h.symm
theorem dw_range {K : PySem.W.Frag} {H0 : Hp} {lo : Int} {n : Nat} : DWalk K (Itr lo n) H0 (rngD lo n) := by
  refine ⟨_, _, (by rw [rngD_len]; exact walk_range), fun _ _ _ _ => trivial, fun i H1 H x H' d hd s1 s2 y => ?_⟩
  obtain ⟨rfl, rfl⟩ := y
  obtain ⟨_, rfl⟩ := rngD_get hd
  exact ⟨H1, JH.refl s2, rfl⟩
theorem dw_pair {K : PySem.W.Frag} {Jt : It} {H0 : Hp} {n : Nat} {G : Hp → Prop} {xs ys : Nat → Option V} {ds : List D} {f g : Nat → Option D} (w : Walk Jt n G (YPair xs ys)) (hn : n = ds.length) (hG : ∀ H1 H, Same H0 H1 → Same H1 H → G H)
    (hd : ∀ i d, ds[i]? = some d → ∃ d1 d2, d = .tup [d1, d2] ∧ (∀ v, xs i = some v → DR K H0 d1 v) ∧ ∀ v, ys i = some v → DR K H0 d2 v) : DWalk K Jt H0 ds := by
  subst hn
  refine ⟨_, _, w, hG, fun i H1 H x H' d h s1 s2 y => ?_⟩
  obtain ⟨T, v1, v2, rfl, hT, rfl, hx, hy⟩ := y
  obtain ⟨d1, d2, rfl, q1, q2⟩ := hd i d h
  have g := JH.new (o := .tup [v1, v2]) s2 hT
  exact ⟨_, g, T, [v1, v2], rfl, SqT.of upd_same, v1, [v2], rfl, DR.mono (s1.trans g.s0) _ _ (q1 v1 hx), v2, [], rfl, DR.mono (s1.trans g.s0) _ _ (q2 v2 hy), rfl⟩
theorem id_list {ds : List D} {tg : Expr} (h : ED X ρ e (.lst ds)) : ID X ρ tg e ds := fun B0 B σ H0 H R j k =>
  ⟨_, pi_list pe_star, h B0 B σ H0 H _ j fun v G0 G g r => by
    obtain ⟨p, vs, rfl, h1, h2⟩ := r
    exact ⟨p, rfl, ⟨vs, g.sh.seq h1⟩, k _ G0 G g (dw_list h1 h2)⟩⟩
theorem id_tup {ds : List D} {tg : Expr} (h : ED X ρ e (.tup ds)) : ID X ρ tg e ds := fun B0 B σ H0 H R j k =>
  ⟨_, pi_tup pe_star, h B0 B σ H0 H _ j fun v G0 G g r => by
    obtain ⟨p, vs, rfl, h1, h2⟩ := r
    exact ⟨p, rfl, ⟨vs, Same.seqT g.sh h1⟩, k _ G0 G g (dw_tup h1 h2)⟩⟩
theorem id_range1 {tg : Expr} {p : Pos} {i : Int} (hg : Gl X "range") (hm : X.mg "range" = none) (ha : ED X ρ a (.int i)) (hb : -(2 ^ 62) ≤ i ∧ i < 2 ^ 62) (hs : starEach [a] X.env = [(false, eval a X.env)] := by rfl) (hs2 : starEach [a] X.env = (false, eval a X.env) :: starEach [] X.env := by rfl) :
    ID X ρ tg (.Call (.Name "range" p) [a] [] pos) (rngD 0 i.toNat) := fun B0 B σ H0 H R j k =>
  ⟨_, pi_range1 hg hm pa_star hs, ad_cons (X := X) ha ad_nil hs2 B0 B σ H0 H _ j fun vs G0 G g r => by
    obtain ⟨x, rfl, h⟩ := r.one'
    cases (show x = .int i from h)
    exact ⟨i, rfl, hb.1, hb.2, k _ G0 G g dw_range⟩⟩
def wipeE (ρ : En) : List Nat → En
  | [] => ρ
  | v :: vs => (wipeE ρ vs).set v .no
theorem J.setNo {K : PySem.W.Frag} {B0 B H0 H : Hp} {σ : St} {ρ : En} (j : J K B0 B σ H0 H ρ) (i : Nat) : J K B0 B (σ.set i none) H0 H (ρ.set i .no) := j.setTo (s := .no) True.intro fun a w => w.elim
theorem J.wipe {K : PySem.W.Frag} {B0 B H0 H : Hp} {σ : St} {ρ : En} (j : J K B0 B σ H0 H ρ) : ∀ vs : List Nat, J K B0 B (wipe σ vs) H0 H (wipeE ρ vs)
  | [] => j
  | v :: vs => (J.wipe j vs).setNo v
theorem wipe_at {σ : St} {i : Nat} : ∀ {vs : List Nat}, i ∈ vs → i < σ.length → (wipe σ vs)[i]? = some none
  | v :: vs, h, hl => by
    unfold wipe
    by_cases e : v = i
    · subst e
      rw [List.getElem?_set_self (by rw [wipe_length]; exact hl)]
    · rw [List.getElem?_set_ne e]
      exact wipe_at (by simpa [Ne.symm e] using h) hl
theorem wipe_back {σ σ2 : St} {vs : List Nat} (hl : σ2.length = σ.length) (h : ∀ k, k ∉ vs → σ2[k]? = (wipe σ vs)[k]?) : wipe σ2 vs = wipe σ vs := by
  refine List.ext_getElem? fun k => ?_
  by_cases hk : k ∈ vs
  · by_cases hb : k < σ.length
    · rw [wipe_at hk (by omega), wipe_at hk hb]
    · rw [List.getElem?_eq_none (by rw [wipe_length]; omega), List.getElem?_eq_none (by rw [wipe_length]; omega)]
  · rw [wipe_out hk, h k hk]
def RTs (X : Cx) (ifs : List Expr) : TT := fun σ H Q => ∃ t, PTs X ifs t ∧ t σ H Q
def TDs (X : Cx) (ρ : En) (ifs : List Expr) (b : Bool) : Prop := ∀ B0 B σ H0 H (Q : Bool → Hp → Prop), J X.K B0 B σ H0 H ρ → (∀ H0' H', JH H0 H H0' H' → Q b H') → RTs X ifs σ H Q
theorem tds_nil : TDs X ρ [] true := fun B0 B σ H0 H Q j k => ⟨_, pts_nil, k H0 H (JH.refl j.same)⟩
theorem tds_one {k : Bool} (h : TD X ρ c k) : TDs X ρ [c] k := fun B0 B σ H0 H Q j kk => ⟨_, pts_one pt_star, h B0 B σ H0 H _ j kk⟩
theorem filterMap_take {α β : Type} (g : α → Option β) (ds : List α) (i : Nat) (d : α) (h : ds[i]? = some d) : (ds.take (i + 1)).filterMap g = (ds.take i).filterMap g ++ (g d).toList := by
  rw [List.take_add_one, h, List.filterMap_append]
  cases q : g d <;> simp [List.filterMap_cons, q]
theorem filterMap_len {α β : Type} (g : α → Option β) (ds : List α) (i : Nat) : ((ds.take i).filterMap g).length ≤ i := by
  refine Nat.le_trans (List.length_filterMap_le _ _) ?_
  simp; omega
section
variable {elt tg iter : Expr} {ifs : List Expr} {scope : Scope} {own : List (Str × Nat)} {ds : List D}
/-- one turn of a comprehension, in every block that may be -/
def Turn1 (X : Cx) (ρ : En) (scope : Scope) (vs : List Nat) (tg elt : Expr) (ifs : List Expr) (d : D) (y : Option D) : Prop :=
  ∃ ρ' : En, ρ'.length = ρ.length ∧ ∀ (s : Shared) (H : Hp) (C : Addr) (cl : List (Str × Addr)) (fp : List Addr), DG (X.blk s H scope (compEnvC scope cl C X.env) fp) vs tg d (wipeE ρ vs) ρ' ∧
    (match y with
    | some z => TDs (X.blk s H scope (compEnvC scope cl C X.env) fp) ρ' ifs true ∧ ED (X.blk s H scope (compEnvC scope cl C X.env) fp) ρ' elt z
    | none => TDs (X.blk s H scope (compEnvC scope cl C X.env) fp) ρ' ifs false)
def GB (X : Cx) (scope : Scope) (tg : Expr) : TG := fun v σ H Q => ∀ (s : Shared) (H' : Hp) (C : Addr) (cl : List (Str × Addr)) (fp : List Addr), RG (X.blk s H' scope (compEnvC scope cl C X.env) fp) tg v σ H Q
def TB (X : Cx) (scope : Scope) (ifs : List Expr) : TT := fun σ H Q => ∀ (s : Shared) (H' : Hp) (C : Addr) (cl : List (Str × Addr)) (fp : List Addr), RTs (X.blk s H' scope (compEnvC scope cl C X.env) fp) ifs σ H Q
def EB (X : Cx) (scope : Scope) (elt : Expr) : TE := fun σ H Q => ∀ (s : Shared) (H' : Hp) (C : Addr) (cl : List (Str × Addr)) (fp : List Addr), RE (X.blk s H' scope (compEnvC scope cl C X.env) fp) elt σ H Q
def TLc (X : Cx) (scope : Scope) (own : List (Str × Nat)) (tg elt iter : Expr) (ifs : List Expr) : TE := tLc (RI X tg iter) (GB X scope tg) (TB X scope ifs) (EB X scope elt) (own.map (·.2))
theorem wipeE_length (ρ : En) : ∀ vs : List Nat, (wipeE ρ vs).length = ρ.length
  | [] => rfl
  | v :: vs => by unfold wipeE; rw [List.length_set, wipeE_length ρ vs]
theorem lc_read (hi : ID X ρ tg iter ds) (ys : List (Option D)) (hlen : ys.length = ds.length) (turn : ∀ (i : Nat) d y, ds[i]? = some d → ys[i]? = some y → Turn1 X ρ scope (own.map (·.2)) tg elt ifs d y) (hl : ds.length ≤ sizeLine) {B0 B : Hp} {σ : St} {H0 H : Hp} {Q : VK} (j : J X.K B0 B σ H0 H ρ)
    (k : ∀ a o H0' H', JH H0 H H0' H' → H' a = some o → H0' a = none → H a = none → OCR X.K H0' (.lst (ys.filterMap id)) o → Q (.ref a) H') : TLc X scope own tg elt iter ifs σ H Q := by
  refine hi B0 B σ H0 H _ j fun Jt G0 G g0 ⟨GG, Y, w, hG, hY⟩ => fun Dn hD => ?_
  have j0 := j.grow g0
  refine lc_it (g := GB X scope tg) (tt := TB X scope ifs) (te := EB X scope elt) (vs := own.map (·.2)) (Qd := fun H => Q (.ref Dn) H) w (fun i H1 => ∃ L0 acc, JH G0 G L0 H1 ∧ H1 Dn = some (.lst acc) ∧ L0 Dn = none ∧ DRs X.K L0 ((ys.take i).filterMap id) acc) ⟨G0, [], JH.own g0.sh hD, upd_same, g0.sh.free hD, rfl⟩ (fun i H1 _ ⟨L0, acc, g1, _⟩ => hG L0 H1 g1.s0 g1.sh) ?_ ?_
  · rintro i x H1 H1' hi ⟨L0, acc, g1, hDn, hD0, racc⟩ hy
    obtain ⟨d, hd⟩ : ∃ d, ds[i]? = some d := ⟨ds[i], by simp [hi]⟩
    obtain ⟨L1, g2, rx⟩ := hY i L0 H1 x H1' d hd g1.s0 g1.sh hy
    obtain ⟨yo, hyo⟩ : ∃ y, ys[i]? = some y := ⟨ys[i]'(by omega), by simp [show i < ys.length by omega]⟩
    obtain ⟨ρ', hlen', turn⟩ := turn i d yo hd hyo
    have j1 := ((j0.grow g1).grow g2).wipe (own.map (·.2))
    have hacc : acc.length < sizeLine := by
      have h1 := DRs.length racc
      have h2 := filterMap_len id ys i
      omega
    intro s Hs C cl fp
    refine (turn s Hs C cl fp).1 B0 B _ L1 H1' x _ j1 rx fun σ2 j2 off => ⟨wipe_back (by rw [j2.len, hlen', ← wipeE_length ρ (own.map (·.2)), ← j1.len, wipe_length]) off, ?_⟩
    have gg := g1.trans g2
    have hDn' : H1' Dn = some (.lst acc) := g2.sB _ _ hDn
    have hD0' : L1 Dn = none := g2.fr _ _ hDn trivial hD0
    have eT := filterMap_take id ys i yo hyo
    cases yo with
    | none =>
      intro s Hs C cl fp
      have t2 := (turn s Hs C cl fp).2
      refine t2 B0 B σ2 L1 H1' _ j2 fun M0 M g3 => iteF ⟨M0, acc, gg.trans g3, g3.sB _ _ hDn', g3.fr _ _ hDn' trivial hD0', ?_⟩
      rw [eT]
      simpa using DRs.mono (g2.trans g3).s0 _ _ racc
    | some z =>
      intro s Hs C cl fp
      have t2 := (turn s Hs C cl fp).2
      refine t2.1 B0 B σ2 L1 H1' _ j2 fun M0 M g3 => iteT fun s Hs C cl fp => ?_
      have t3 := (turn s Hs C cl fp).2
      refine t3.2 B0 B σ2 M0 M _ (j2.grow g3) fun y N0 N g4 ry => ?_
      have g34 := g3.trans g4
      have h4 : N Dn = some (.lst acc) := g34.sB _ _ hDn'
      have h40 : N0 Dn = none := g34.fr _ _ hDn' trivial hD0'
      have gl := gg.trans g34
      refine ⟨acc, h4, hacc, N0, acc ++ [y], ⟨gl.s0, fun b u e => upd_keep (gl.sh b u e) (ne_of_none e h40), fun b u e => upd_keep (gl.sB b u e) (ne_of_none e hD), gl.fr⟩, upd_same, h40, ?_⟩
      rw [eT]
      exact DRs.app (DRs.mono (g2.trans g34).s0 _ _ racc) (DRs.one ry)
  · rintro H1 ⟨L0, acc, g1, hDn, hD0, racc⟩
    rw [List.take_of_length_le (Nat.le_of_eq hlen)] at racc
    exact k Dn _ L0 H1 (g0.trans g1) hDn hD0 (g0.sB.free hD) ⟨acc, rfl, racc⟩
variable {cpos : Pos}
theorem eo_lc (own : List (Str × Nat)) (hc : X.calm = true) (hN : X.N.Nodup) (ok : BlkOk X.N X.env.scope scope own) (hi : ID X ρ tg iter ds) (ys : List (Option D)) (hlen : ys.length = ds.length) (turn : ∀ (i : Nat) d y, ds[i]? = some d → ys[i]? = some y → Turn1 X ρ scope (own.map (·.2)) tg elt ifs d y) (hl : ds.length ≤ sizeLine)
    (hs : ∀ x, foldedSetIterable iter X.env x = pure x := by intro _; rfl) : EO X ρ (.ListComp elt [⟨tg, iter, ifs, 0⟩] scope cpos) (.lst (ys.filterMap id)) := fun B0 B σ H0 H Q j k =>
  RE.of (pe_lc hc hN pi_star ok (g := GB X scope tg) (tt := TB X scope ifs) (te := EB X scope elt)
    (fun s H C cl fp => ⟨fun pins s1 σ1 H1 v u Q1 I r h => (pg_star (tg := tg)).run pins s1 σ1 H1 v u Q1 I r (h s H C cl fp)⟩)
    (fun s H C cl fp => ⟨fun pins s1 σ1 H1 Q1 I h => by obtain ⟨t, h1, h2⟩ := h s H C cl fp; exact h1.run pins s1 σ1 H1 Q1 I h2⟩)
    (fun s H C cl fp => ⟨fun pins s1 σ1 H1 Q1 I h => (pe_star (e := elt)).run pins s1 σ1 H1 Q1 I (h s H C cl fp)⟩) hs) (lc_read hi ys hlen turn hl j k)
end
inductive Out where
  | nx (ρ : En) | bk (ρ : En) | ct (ρ : En) | rt (d : D)
  /-- .. with what was its own -/
  | ro (c : OC)
  /-- .. with what it was lent -/
  | rc (d : D) (cs : List (Addr × OC))
def Post (K : PySem.W.Frag) (B0 B : Hp) (Dn : Ends) : Out → Prop
  | .nx ρ => ∀ σ H0 H, J K B0 B σ H0 H ρ → Dn.nx σ H
  | .bk ρ => ∀ σ H0 H, J K B0 B σ H0 H ρ → Dn.bk σ H
  | .ct ρ => ∀ σ H0 H, J K B0 B σ H0 H ρ → Dn.ct σ H
  | .rt d => ∀ v H0 H, JH B0 B H0 H → DR K H0 d v → Dn.rt v H
  | .ro c => ∀ a o H0 H, JH B0 B H0 H → H a = some o → H0 a = none → B a = none → OCR K H0 c o → Dn.rt (.ref a) H
  | .rc d cs => ∀ v H0 H, JH B0 B H0 H → (∀ p ∈ cs, CellR K B H0 H p.1 p.2) → (cs.map (·.1)).Nodup → DR K H0 d v → Dn.rt v H
def WS (X : Cx) (st : Stmt) (ρ : En) (Φ : Out → Prop) : Prop := ∀ B0 B σ H0 H Dn, J X.K B0 B σ H0 H ρ → (∀ o, Φ o → Post X.K B0 B Dn o) → RS X st Dn σ H
def WSs (X : Cx) (sts : List Stmt) (ρ : En) (Φ : Out → Prop) : Prop := ∀ B0 B σ H0 H Dn, J X.K B0 B σ H0 H ρ → (∀ o, Φ o → Post X.K B0 B Dn o) → RSs X sts Dn σ H
/-- what is wanted of a statement that others follow -/
def Then (X : Cx) (rest : List Stmt) (Φ : Out → Prop) : Out → Prop
  | .nx ρ => WSs X rest ρ Φ
  | o => Φ o
variable {st : Stmt} {rest : List Stmt} {Φ : Out → Prop}
theorem ws_nil (h : Φ (.nx ρ)) : WSs X [] ρ Φ := fun B0 B σ H0 H Dn j k => ⟨_, pss_nil, k _ h σ H0 H j⟩
theorem ws_cons (h : WS X st ρ (Then X rest Φ)) : WSs X (st :: rest) ρ Φ := fun B0 B σ H0 H Dn j k => by
  refine ⟨_, pss_cons ps_star pss_star, h B0 B σ H0 H _ j fun o ho => ?_⟩
  cases o with
  | nx ρ' => exact fun σ' H0' H' j' => ho B0 B σ' H0' H' Dn j' k
  | bk ρ' => exact k _ ho
  | ct ρ' => exact k _ ho
  | rt d => exact k _ ho
  | ro c => exact k _ ho
  | rc d cs => exact k _ ho
theorem ws_mono {Ψ : Out → Prop} (h : WSs X rest ρ Ψ) (k : ∀ o, Ψ o → Φ o) : WSs X rest ρ Φ := fun B0 B σ H0 H Dn j kk => h B0 B σ H0 H Dn j fun o ho => kk o (k o ho)
/-- what a slot owns is given to all -/
theorem ws_share (i : Nat) {c : OC} (hi : ρ[i]? = some (.ow c)) (h : WSs X rest (ρ.set i (.sh c.d)) Φ) : WSs X rest ρ Φ := fun B0 B σ H0 H Dn j k => by
  obtain ⟨H0', j', _⟩ := j.share hi
  exact h B0 B σ H0' H Dn j' k
theorem ws_ret (h : ED X ρ e d) (hΦ : Φ (.rt d)) : WS X (.Return (some e) pos) ρ Φ := fun B0 B σ H0 H Dn j k =>
  ⟨_, ps_ret pe_star, h B0 B σ H0 H _ j fun v H0' H' g r => k _ hΦ v H0' H' (j.hp.trans g) r⟩
theorem ws_if {k : Bool} {sa sb : List Stmt} (hc : TD X ρ c k) (h1 : k = true → WSs X sa ρ Φ) (h2 : k = false → WSs X sb ρ Φ) : WS X (.If c sa sb pos) ρ Φ := fun B0 B σ H0 H Dn j kk => by
  refine ⟨_, ps_if pt_star pss_star pss_star, hc B0 B σ H0 H _ j fun H0' H' g => ?_⟩
  cases k with
  | true => exact iteT (h1 rfl B0 B σ H0' H' Dn (j.grow g) kk)
  | false => exact iteF (h2 rfl B0 B σ H0' H' Dn (j.grow g) kk)
theorem ws_set (i : Nat) {x : Str} {pos' : Pos} (hN : X.N.Nodup) (he : ED X ρ e d) (hΦ : Φ (.nx (ρ.set i (.sh d)))) (hi : X.N[i]? = some x := by rfl) (hx : Loc X.env.scope x := by first | exact Or.inl rfl | exact Or.inr rfl)
    (hs : swapsWith e (some (.Name x pos')) pos.line X.env = pure false := by rfl) (hf : X.fn x = true ∨ X.env.scope.names.lookup x = some .local := by first | exact .inl rfl | exact .inr rfl) : WS X (.Assign [.Name x pos'] e pos) ρ Φ := fun B0 B σ H0 H Dn j k =>
  ⟨_, ps_set hN hi hx pe_star hs hf, he B0 B σ H0 H _ j fun v H0' H' g r => k _ hΦ _ H0' H' ((j.grow g).setSh r)⟩
theorem J.setNew {K : PySem.W.Frag} {B0 B H0 H H0' H' : Hp} {σ : St} {ρ : En} (j : J K B0 B σ H0 H ρ) (g : JH H0 H H0' H') {i : Nat} {c : OC} {a : Addr} {o : HO} (h : H' a = some o) (h0 : H0' a = none) (n : H a = none) (r : OCR K H0' c o) :
    J K B0 B (σ.set i (some (.ref a))) H0' H' (ρ.set i (.ow c)) :=
  (j.grow g).setOwn h h0 (j.hp.sB.free n) (fun m s ov _ hm hs w => by
    obtain ⟨o', h1, _⟩ := j.own hm hs w
    rw [n] at h1; cases h1) r
theorem ws_setO (i : Nat) {x : Str} {c : OC} {pos' : Pos} (hN : X.N.Nodup) (he : EO X ρ e c) (hΦ : Φ (.nx (ρ.set i (.ow c)))) (hi : X.N[i]? = some x := by rfl) (hx : Loc X.env.scope x := by first | exact Or.inl rfl | exact Or.inr rfl)
    (hs : swapsWith e (some (.Name x pos')) pos.line X.env = pure false := by rfl) (hf : X.fn x = true ∨ X.env.scope.names.lookup x = some .local := by first | exact .inl rfl | exact .inr rfl) : WS X (.Assign [.Name x pos'] e pos) ρ Φ := fun B0 B σ H0 H Dn j k =>
  ⟨_, ps_set hN hi hx pe_star hs hf, he B0 B σ H0 H _ j fun a o H0' H' g h1 h2 h3 r => k _ hΦ _ H0' H' (j.setNew g h1 h2 h3 r)⟩
section
variable {elt tg iter : Expr} {ifs : List Expr} {scope : Scope} {ds : List D} {cpos : Pos}
/-- y = [.. for ..], y a local of the def's own on the same line -/
theorem ws_setLc (i : Nat) (own : List (Str × Nat)) {y : Str} {py : Pos} (hc : X.calm = true) (hN : X.N.Nodup) (ok : BlkOk X.N X.env.scope scope own) (hi : ID X ρ tg iter ds) (ys : List (Option D)) (hlen : ys.length = ds.length) (turn : ∀ (i : Nat) d y, ds[i]? = some d → ys[i]? = some y → Turn1 X ρ scope (own.map (·.2)) tg elt ifs d y) (hl : ds.length ≤ sizeLine)
    (hΦ : Φ (.nx (ρ.set i (.ow (.lst (ys.filterMap id)))))) (hy : X.N[i]? = some y := by rfl) (hyl : X.env.scope.names.lookup y = some .local := by rfl)
    (hsw : swapsWith (.ListComp elt [⟨tg, iter, ifs, 0⟩] scope cpos) (some (.Name y py)) pos.line X.env = pure true := by exact sw_true rfl rfl rfl (by decide +kernel)) (hs : ∀ x, foldedSetIterable iter X.env x = pure x := by intro _; rfl) :
    WS X (.Assign [.Name y py] (.ListComp elt [⟨tg, iter, ifs, 0⟩] scope cpos) pos) ρ Φ := fun B0 B σ H0 H Dn j k =>
  ⟨_, ps_setLc hc hN hy hyl hsw pi_star ok (g := GB X scope tg) (tt := TB X scope ifs) (te := EB X scope elt)
    (fun s H C cl fp => ⟨fun pins s1 σ1 H1 v u Q1 I r h => (pg_star (tg := tg)).run pins s1 σ1 H1 v u Q1 I r (h s H C cl fp)⟩)
    (fun s H C cl fp => ⟨fun pins s1 σ1 H1 Q1 I h => by obtain ⟨t, h1, h2⟩ := h s H C cl fp; exact h1.run pins s1 σ1 H1 Q1 I h2⟩)
    (fun s H C cl fp => ⟨fun pins s1 σ1 H1 Q1 I h => (pe_star (e := elt)).run pins s1 σ1 H1 Q1 I (h s H C cl fp)⟩) hs,
   lc_read hi ys hlen turn hl j fun a o H0' H' gg h1 h2 h3 r => k _ hΦ _ H0' H' (j.setNew gg h1 h2 h3 r)⟩
end
/-- a, b, .. = e -/
theorem ws_unpack {tg : Expr} {is : List Nat} (he : ED X ρ e d) (hg : DG X is tg d ρ ρ') (hΦ : Φ (.nx ρ')) (hs : swapsWithSole [tg] e pos.line X.env = pure false := by rfl) (hw : swappedStores [tg] e X.env = pure none := by rfl)
    (h1 : (assignEach [tg] X.env).map (·.2) = [assign tg X.env] := by rfl) : WS X (.Assign [tg] e pos) ρ Φ := fun B0 B σ H0 H Dn j k =>
  ⟨_, ps_asg pe_star pg_star hs hw h1, he B0 B σ H0 H _ j fun v H0' H' g r => hg B0 B σ H0' H' v _ (j.grow g) r fun σ' j' _ => k _ hΦ σ' H0' H' j'⟩
/-- xs.append(e), xs a list of the def's own -/
theorem ws_append (i : Nat) {x : Str} {p1 p2 p3 : Pos} {ds : List D} (hi : ρ[i]? = some (.ow (.lst ds))) (he : ED X ρ e d) (hl : ds.length < sizeLine) (hΦ : Φ (.nx (ρ.set i (.ow (.lst (ds ++ [d]))))))
    (hpe : ∀ {ta : TA}, PA X [e] ta → PS X (.Expr (.Call (.Attribute (.Name x p1) "append" p2) [e] [] p3) pos) (tDrop (tBM X.K "list" rAppend (tVar i) ta))) (hs : starEach [e] X.env = (false, eval e X.env) :: starEach [] X.env := by rfl) :
    WS X (.Expr (.Call (.Attribute (.Name x p1) "append" p2) [e] [] p3) pos) ρ Φ := fun B0 B σ H0 H Dn j k => by
  obtain ⟨ov, e1, a, o, rfl, h1, h2, h3, vs, rfl, r⟩ := j.get hi
  refine ⟨_, hpe pa_star, .ref a, e1, Or.inl ⟨rfl, _, Or.inl (Or.inl h1)⟩, ad_cons (X := X) he ad_nil hs B0 B σ H0 H _ j fun ws G0 G g rr => ?_⟩
  obtain ⟨y, rfl, ry⟩ := rr.one'
  have j1 := j.grow g
  obtain ⟨ov', e1', a', o', e2, h1', _, _, vs', rfl, r'⟩ := j1.get hi
  rw [e1] at e1'; cases e1'; cases e2
  refine ⟨a, vs', y, rfl, rfl, h1', by rw [← DRs.length r']; exact hl, ?_⟩
  exact k _ hΦ _ G0 _ (j1.write hi e1 ⟨_, rfl, DRs.app r' (DRs.one ry)⟩)
/-- for: I by the turn and the slots -/
theorem ws_for {tg iter : Expr} {body : List Stmt} {ds : List D} (hc : X.calm = true) (hi : ID X ρ tg iter ds) (I : Nat → En → Prop) (h0 : I 0 ρ)
    (hs : ∀ i d ρ', ds[i]? = some d → I i ρ' → ∃ is ρ'', DG X is tg d ρ' ρ'' ∧ WSs X body ρ'' (fun o => match o with | .nx r => I (i + 1) r | .ct r => I (i + 1) r | .bk r => Φ (.nx r) | .rt v => Φ (.rt v) | .ro c => Φ (.ro c) | .rc v cs => Φ (.rc v cs))) (hd : ∀ ρ', I ds.length ρ' → Φ (.nx ρ'))
    (hp : PassesOwn (model X.prog X.w) X.A X.env X.xe := by exact PassesOwn.never) (hf : ∀ x, foldedSetIterable iter X.env x = pure x := by intro _; rfl) : WS X (.For tg iter body [] pos) ρ Φ := fun B0 B σ H0 H Dn j k => by
  refine ⟨_, ps_for hp hc pi_star pg_star pss_star hf, hi B0 B σ H0 H _ j fun Jt G0 G g0 ⟨GG, Y, w, hG, hY⟩ => ?_⟩
  have j0 := j.grow g0
  refine for_it w (fun i σ' H1 => ∃ ρ' L0, I i ρ' ∧ J X.K G0 B σ' L0 H1 ρ') ⟨ρ, G0, h0, j0.rebase⟩ (fun i σ' H1 _ ⟨ρ', L0, _, j1⟩ => hG L0 H1 j1.hp.s0 j1.hp.sh) ?_ ?_
  · rintro i x σ1 H1 H1' hi ⟨ρ1, L0, hI, j1⟩ hy
    obtain ⟨d, hd'⟩ : ∃ d, ds[i]? = some d := ⟨ds[i], by simp [hi]⟩
    obtain ⟨L1, g2, rx⟩ := hY i L0 H1 x H1' d hd' j1.hp.s0 j1.hp.sh hy
    obtain ⟨is, ρ2, hg, hb⟩ := hs i d ρ1 hd' hI
    refine hg G0 B σ1 L1 H1' x _ (j1.grow g2) rx fun σ2 j2 _ => ?_
    refine hb G0 B σ2 L1 H1' _ j2 fun o ho => ?_
    cases o with
    | nx r => exact fun σ3 M0 M j3 => ⟨r, M0, ho, j3⟩
    | ct r => exact fun σ3 M0 M j3 => ⟨r, M0, ho, j3⟩
    | bk r => exact fun σ3 M0 M j3 => k _ ho σ3 M0 M (j0.unbase j3)
    | rt v => exact fun v' M0 M g r => k _ ho v' M0 M ⟨j0.hp.s0.trans g.s0, g.sh, g.sB, fun b u e n e' => g.fr b u e n (j0.hp.fr b u e n e')⟩ r
    | ro c => exact fun a o M0 M g h1 h2 h3 r => k _ ho a o M0 M ⟨j0.hp.s0.trans g.s0, g.sh, g.sB, fun b u e n e' => g.fr b u e n (j0.hp.fr b u e n e')⟩ h1 h2 h3 r
    | rc v cs => exact fun a M0 M g h1 h2 r => k _ ho a M0 M ⟨j0.hp.s0.trans g.s0, g.sh, g.sB, fun b u e n e' => g.fr b u e n (j0.hp.fr b u e n e')⟩ h1 h2 r
  · rintro σ1 H1 ⟨ρ1, L0, hI, j1⟩
    exact k _ (hd ρ1 hI) σ1 L0 H1 (j0.unbase j1)
end
end DL
namespace DL
open PySem PySem.Spec PyProof.Rows L2
def en (N : List Str) (ds : List D) : En := ds.map Sl.sh ++ List.replicate (N.length - ds.length) Sl.no
section
variable {P : Program} {w : World} {K : PySem.W.Frag} {mg : Str → Option Value} {base : Heap}
theorem en_kind {N : List Str} {ds : List D} {i : Nat} {s : Sl} (h : (en N ds)[i]? = some s) : s = .no ∨ ∃ d, s = .sh d := by
  unfold en at h
  by_cases hi : i < ds.length
  · rw [List.getElem?_append_left (by simpa using hi), List.getElem?_map, show ds[i]? = some ds[i] by simp [hi]] at h
    cases h; exact .inr ⟨_, rfl⟩
  · rw [List.getElem?_append_right (by simp; omega), List.getElem?_replicate] at h
    split at h
    · cases h; exact .inl rfl
    · cases h
theorem j_start {N : List Str} {H0 H : Hp} {ds : List D} {vs : List V} (s : Same H0 H) (r : DRs K H0 ds vs) (hl : ds.length ≤ N.length) : J K H0 H (L2.start N vs) H0 H (en N ds) := by
  have hlen := DRs.length r
  refine ⟨JH.refl s, by simp [L2.start, en, hlen], fun i sl ov h1 h2 => ?_, fun i j s1 s2 o1 o2 a h1 _ _ _ w _ => absurd w (Owns.none (en_kind h1) a)⟩
  unfold en at h1
  unfold L2.start at h2
  by_cases hi : i < ds.length
  · rw [List.getElem?_append_left (by simpa using hi), List.getElem?_map] at h1
    rw [List.getElem?_append_left (by simp; omega), List.getElem?_map] at h2
    obtain ⟨v, e1, e2⟩ := DRs.get r (show ds[i]? = some ds[i] by simp [hi])
    rw [show ds[i]? = some ds[i] by simp [hi]] at h1
    rw [e1] at h2
    cases h1; cases h2
    exact ⟨v, rfl, e2⟩
  · rw [List.getElem?_append_right (by simp; omega), List.getElem?_replicate] at h1
    split at h1
    · cases h1; trivial
    · cases h1
/-- the context of a def's body -/
abbrev bx (P : Program) (w : World) (K : PySem.W.Frag) (mg : Str → Option Value) (base : Heap) (N : List Str) (qual : Str) (st : Stmt) (f : Addr) (cdv : Value) (A : Around) (outer : List Env) (s : Shared) (H : Hp) (E : XK) : Cx :=
  (cxOf CX0 P w K mg base N qual (defScope st) f cdv A outer s H E).nox
theorem fn_ok {x qual : Str} {st : Stmt} {f : Addr} {fd : FuncData} {N ps : List Str} {k : Nat} {R : List D → D → Prop} (F : Fun K x qual st f fd) (S : FnScope N ps (defScope st)) (hR : ∀ ds d, R ds d → ds.length = ps.length)
    (h : ∀ ds d, R ds d → ∀ (cdv : Value) (A : Around) (outer : List Env) (s : Shared) (H : Hp) (E : XK), Room k (A.deeper (envOfC qual (defScope st) s.heap.objs.size f cdv)) →
      WSs (bx P w K mg base N qual st f cdv A outer s H E) (defBody st) (en N ds) (fun o => o = .rt d ∨ (∃ ρ, o = .nx ρ ∧ d = .non))) : FnOk P w K mg base CX0 (k + 1) f fd ps (spR K R) := by
  refine F.ok S (fun vs H Q E hs => ?_) fun cdv A outer s H vs Q E hr hs => ?_
  · obtain ⟨H0, ds, d, _, r, q, _⟩ := hs
    rw [← DRs.length r]; exact hR ds d q
  · obtain ⟨H0, ds, d, s0, r, q, kk⟩ := hs
    have hN : ds.length ≤ N.length := by
      have h1 := hR ds d q
      have h2 := congrArg List.length S.pre
      rw [List.length_take] at h2
      omega
    obtain ⟨t, h1, h2⟩ := h ds d q cdv A outer s H E hr H0 H (L2.start N vs) H0 H (j_start s0 r hN) (Dn := { nx := fun _ H' => Q .non H', rt := Q }) fun o ho => by
      rcases ho with rfl | ⟨ρ, rfl, rfl⟩
      · exact fun v G0 G g rv => kk v G0 G g rv
      · exact fun σ G0 G j => kk .non G0 G j.hp rfl
    exact ⟨t, h1, h2⟩
/-- what a law promises -/
inductive RLaw : List D → D → Prop where
  | mk (ns : List Int) (h : ns.length ≤ 63) : RLaw [.lst (ns.map .int)] (.bl true)
def spLaw (K : PySem.W.Frag) : Sp := fun vs H Q _ => ∃ (a : Addr) (ns : List Int), vs = [.ref a] ∧ SqL K H a (ns.map V.int) ∧ ns.length ≤ 63 ∧ ∀ H', Q (.bl true) H'
theorem law_sp {k : Nat} {f : Addr} {fd : FuncData} {ps : List Str} (F : FnOk P w K mg base CX0 k f fd ps (spR K RLaw)) : FnOk P w K mg base CX0 k f fd ps (spLaw K) :=
  F.imp fun vs H Q E ⟨a, ns, e, hS, hl, q⟩ => ⟨H, [.lst (ns.map .int)], .bl true, Same.refl H, by rw [e]; exact ⟨.ref a, [], rfl, ⟨a, _, rfl, hS, DRs.ofInts ns⟩, rfl⟩, ⟨ns, hl⟩, fun r H0' H' g rr => by
    cases (show r = .bl true from rr); exact q H'⟩
theorem walk_law {l : PySem.W.OpenLaw} {q : Program} {loose : List Str} {XP : (Str → Option Value) → Heap → Prop} {YP : World → Heap → Prop} {d : DefRec} {K : Params → PySem.W.Frag} {k : Nat} (hn : l.most = some 63) (hr : Room k callerA) (hdf : d.params.defaults = [])
    (hY : ∀ (w : World) (h : Heap), YP w h → (K w.params).In h)
    (F : ∀ (w : World) (mg : Str → Option Value) (fa : Addr) (h : Heap), (K w.params).In h → h.Ns mainGlobals mg → mg d.name = some (.ref fa) →
      ∃ fd : FuncData, (∀ (s : Shared) (u : Value), BindsTo s fd ⟨[u], []⟩ [("script", u)]) ∧ ∀ base : Heap, (K w.params).In base → base.Ns mainGlobals mg → FnOk l.prog w (K w.params) mg base CX0 k fa fd ["script"] (spR (K w.params) RLaw)) :
    PySem.W.WalkO q loose XP YP l.row.toRowW d [] (fun f vs => PySem.call f vs) :=
  L2.walk_of (n := 63) (k := k) (x := "script") (CX := fun _ => CX0) (sp := fun w => spLaw (K w.params)) hn (by decide) hdf hr hY
    (fun w mg fa h KX G e => let ⟨fd, h1, h2⟩ := F w mg fa h KX G e; ⟨fd, h1, fun base b1 b2 => law_sp (h2 base b1 b2)⟩) (fun _ _ a ns hl _ hS => ⟨a, ns, rfl, hS, hl, fun _ => rfl⟩) fun _ _ _ _ _ z => z
end
section
variable {X : Cx} {ρ : En}
/-- an item of a list, a tuple, a text -/
inductive IX : D → D → D → Prop where
  | t {ds i d} (h : atI ds i = some d) : IX (.tup ds) (.int i) d
  | l {ds i d} (h : atI ds i = some d) : IX (.lst ds) (.int i) d
theorem IX.t0 {a r} : IX (.tup (a :: r)) (.int 0) a := .t (by unfold atI ixN; simp only [List.length_cons]; rw [if_pos (by decide), if_pos (by omega)]; rfl)
theorem IX.t1 {a b r} : IX (.tup (a :: b :: r)) (.int 1) b := .t (by unfold atI ixN; simp only [List.length_cons]; rw [if_pos (by decide), if_pos (by omega)]; rfl)
theorem IX.t2 {a b c r} : IX (.tup (a :: b :: c :: r)) (.int 2) c := .t (by unfold atI ixN; simp only [List.length_cons]; rw [if_pos (by decide), if_pos (by omega)]; rfl)
theorem IX.t3 {a b c d r} : IX (.tup (a :: b :: c :: d :: r)) (.int 3) d := .t (by unfold atI ixN; simp only [List.length_cons]; rw [if_pos (by decide), if_pos (by omega)]; rfl)
theorem IX.t4 {a b c d e r} : IX (.tup (a :: b :: c :: d :: e :: r)) (.int 4) e := .t (by unfold atI ixN; simp only [List.length_cons]; rw [if_pos (by decide), if_pos (by omega)]; rfl)
theorem IX.t5 {a b c d e f r} : IX (.tup (a :: b :: c :: d :: e :: f :: r)) (.int 5) f := .t (by unfold atI ixN; simp only [List.length_cons]; rw [if_pos (by decide), if_pos (by omega)]; rfl)
theorem IX.l0 {a r} : IX (.lst (a :: r)) (.int 0) a := .l (by unfold atI ixN; simp only [List.length_cons]; rw [if_pos (by decide), if_pos (by omega)]; rfl)
theorem IX.l1 {a b r} : IX (.lst (a :: b :: r)) (.int 1) b := .l (by unfold atI ixN; simp only [List.length_cons]; rw [if_pos (by decide), if_pos (by omega)]; rfl)
theorem IX.l2 {a b c r} : IX (.lst (a :: b :: c :: r)) (.int 2) c := .l (by unfold atI ixN; simp only [List.length_cons]; rw [if_pos (by decide), if_pos (by omega)]; rfl)
theorem ed_ix {a b : Expr} {d1 d2 d : D} {pos : Pos} (ha : ED X ρ a d1) (hb : ED X ρ b d2) (h : IX d1 d2 d) (hs : PlainIx b := by exact fun _ _ => rfl) : ED X ρ (.Subscript a b pos) d := by
  cases h with
  | t h => exact ix_t ha hb h hs
  | l h => exact ix_l ha hb h hs
theorem atI_nn {α : Type} {xs : List α} {i : Int} {v : α} (h0 : 0 ≤ i) (h : xs[i.toNat]? = some v) : atI xs i = some v := by
  have e : ((i.toNat : Nat) : Int) = i := Int.toNat_of_nonneg h0
  rw [← e]; exact atI_nat h
/-- isinstance of a built-in class -/
def tyD : D → Option String
  | .non => some "NoneType" | .bl _ => some "bool" | .int _ => some "int" | .str _ => some "str"
  | .lst _ => some "list" | .tup _ => some "tuple" | .dk _ _ => some "dict" | .dt _ _ => none | .obj _ _ _ => none | .ad _ => none | .ptp _ => none | .etp _ => none | .exc _ _ _ _ => none | .ty _ => none
theorem tyx_of {K : PySem.W.Frag} {H : Hp} {d : D} {v : V} {n : String} (h : DR K H d v) (hn : tyD d = some n) (hnn : n ≠ "NoneType") : TyX K H v (.type n) := by
  cases d with
  | non => cases hn; exact absurd rfl hnn
  | bl _ => cases (show v = .bl _ from h); cases hn; exact .base (.bl _)
  | int _ => cases (show v = .int _ from h); cases hn; exact .base (.int _)
  | str _ => cases (show v = .str _ from h); cases hn; exact .base (.str _)
  | lst _ =>
    obtain ⟨a, vs, rfl, h1, _⟩ := h
    cases hn
    rcases h1 with (h1 | ⟨o, h1⟩) | ⟨o, its, n, h1, h2, _⟩
    · exact .base (.lst h1)
    · exact .base (.frz h1)
    · exact .kList h1 h2
  | tup _ =>
    obtain ⟨a, vs, rfl, h1, _⟩ := h
    cases hn
    rcases h1 with (h1 | ⟨o, h1⟩) | ⟨o, its, n, h1, h2, _⟩
    · exact .base (.tup h1)
    · exact .fTuple h1
    · exact .kTuple h1 h2
  | dk _ _ =>
    obtain ⟨a, vs, rfl, h1, _⟩ := h
    cases hn
    rcases h1 with h1 | ⟨o, h1⟩
    · exact .base (.dK h1)
    · exact .fDict h1
  | dt _ _ => cases hn
  | obj _ _ _ => cases hn
  | ad _ => cases hn
  | ptp _ => cases hn
  | etp _ => cases hn
  | exc _ _ _ _ => cases hn
  | ty _ => cases hn
theorem bc_isi {d : D} {n c : String} {b : Bool} (hn : tyD d = some n) (h : kitB n c = some b) (hnn : n ≠ "NoneType" := by decide) : BC X (.builtin "isinstance") [d, .ty c] (.bl b) :=
  bc_keep call_isi _ (fun _ => rfl) fun H0 H vs _ s r q => by
    obtain ⟨x, y, rfl, h1, h2⟩ := r.two
    cases (show y = .ty c from h2)
    exact ⟨x, .ty c, .type n, .type c, b, rfl, .ty c, tyx_of (DR.mono s _ _ h1) hn hnn, kit_ty h, q⟩
theorem ed_ty {x : Str} {n : String} {pos : Pos} (hg : Gl X x) (hm : X.mg x = none) (hv : bootBuiltins x = some (.type n)) (hn : x ≠ "__name__" := by decide) (hd : (x == ("__debug__" : Str)) = false := by decide) : ED X ρ (.Name x pos) (.ty n) :=
  fun B0 B σ H0 H Q j k => RE.of (pe_bltn (v := .ty n) hg hm hv rfl hn hd) (k _ H0 H (JH.refl j.same) rfl)
theorem filterMap_some {α β : Type} (f : α → β) : ∀ xs : List α, (xs.map fun x => some (f x)).filterMap id = xs.map f
  | [] => rfl
  | x :: xs => by simp [filterMap_some f xs]
theorem filterMap_if {α β : Type} (p : α → Bool) (f : α → β) : ∀ xs : List α, (xs.map fun x => if p x = true then some (f x) else none).filterMap id = (xs.filter p).map f
  | [] => rfl
  | x :: xs => by
    have ih := filterMap_if p f xs
    by_cases h : p x = true
    · simp only [List.map_cons, if_pos h, List.filter_cons_of_pos h, List.filterMap_cons, id, ih]
    · simp only [List.map_cons, if_neg h, List.filter_cons_of_neg h, List.filterMap_cons, id, ih]
section
variable {elt tg iter : Expr} {ifs : List Expr} {scope : Scope} {ds : List D} {cpos pos : Pos} {α β : Type} {Φ : Out → Prop}
theorem turns_map {own : List (Str × Nat)} {xs : List α} {enc : α → D} {f : α → D} (he : ds = xs.map enc) (turn : ∀ x ∈ xs, Turn1 X ρ scope (own.map (·.2)) tg elt ifs (enc x) (some (f x))) :
    ∀ (i : Nat) d y, ds[i]? = some d → (xs.map fun x => some (f x))[i]? = some y → Turn1 X ρ scope (own.map (·.2)) tg elt ifs d y := by
  subst he
  intro i d y h1 h2
  rw [List.getElem?_map] at h1 h2
  cases q : xs[i]? with
  | none => rw [q] at h1; cases h1
  | some x =>
    rw [q] at h1 h2
    cases h1; cases h2
    exact turn x (List.mem_of_getElem? q)
theorem turns_if {own : List (Str × Nat)} {xs : List α} {enc : α → D} {p : α → Bool} {f : α → D} (he : ds = xs.map enc) (turn : ∀ x ∈ xs, Turn1 X ρ scope (own.map (·.2)) tg elt ifs (enc x) (if p x = true then some (f x) else none)) :
    ∀ (i : Nat) d y, ds[i]? = some d → (xs.map fun x => if p x = true then some (f x) else none)[i]? = some y → Turn1 X ρ scope (own.map (·.2)) tg elt ifs d y := by
  subst he
  intro i d y h1 h2
  rw [List.getElem?_map] at h1 h2
  cases q : xs[i]? with
  | none => rw [q] at h1; cases h1
  | some x =>
    rw [q] at h1 h2
    cases h1; cases h2
    exact turn x (List.mem_of_getElem? q)
/-- [f x for x in xs] -/
theorem eo_map (own : List (Str × Nat)) (xs : List α) (enc : α → D) (f : α → D) (hc : X.calm = true) (hN : X.N.Nodup) (ok : BlkOk X.N X.env.scope scope own) (hi : ID X ρ tg iter ds) (he : ds = xs.map enc) (turn : ∀ x ∈ xs, Turn1 X ρ scope (own.map (·.2)) tg elt ifs (enc x) (some (f x))) (hl : xs.length ≤ sizeLine)
    (hs : ∀ x, foldedSetIterable iter X.env x = pure x := by intro _; rfl) : EO X ρ (.ListComp elt [⟨tg, iter, ifs, 0⟩] scope cpos) (.lst (xs.map f)) := by
  have h := eo_lc (cpos := cpos) own hc hN ok hi (xs.map fun x => some (f x)) (by rw [he]; simp) (turns_map he turn) (by rw [he]; simpa using hl) hs
  rwa [filterMap_some] at h
/-- [f x for x in xs if p x] -/
theorem eo_filter (own : List (Str × Nat)) (xs : List α) (enc : α → D) (p : α → Bool) (f : α → D) (hc : X.calm = true) (hN : X.N.Nodup) (ok : BlkOk X.N X.env.scope scope own) (hi : ID X ρ tg iter ds) (he : ds = xs.map enc) (turn : ∀ x ∈ xs, Turn1 X ρ scope (own.map (·.2)) tg elt ifs (enc x) (if p x = true then some (f x) else none)) (hl : xs.length ≤ sizeLine)
    (hs : ∀ x, foldedSetIterable iter X.env x = pure x := by intro _; rfl) : EO X ρ (.ListComp elt [⟨tg, iter, ifs, 0⟩] scope cpos) (.lst ((xs.filter p).map f)) := by
  have h := eo_lc (cpos := cpos) own hc hN ok hi (xs.map fun x => if p x = true then some (f x) else none) (by rw [he]; simp) (turns_if he turn) (by rw [he]; simpa using hl) hs
  rwa [filterMap_if] at h
theorem ws_setMap (i : Nat) (own : List (Str × Nat)) (xs : List α) (enc : α → D) (f : α → D) {y : Str} {py : Pos} (hc : X.calm = true) (hN : X.N.Nodup) (ok : BlkOk X.N X.env.scope scope own) (hi : ID X ρ tg iter ds) (he : ds = xs.map enc) (turn : ∀ x ∈ xs, Turn1 X ρ scope (own.map (·.2)) tg elt ifs (enc x) (some (f x))) (hl : xs.length ≤ sizeLine)
    (hΦ : Φ (.nx (ρ.set i (.ow (.lst (xs.map f)))))) (hy : X.N[i]? = some y := by rfl) (hyl : X.env.scope.names.lookup y = some .local := by rfl)
    (hsw : swapsWith (.ListComp elt [⟨tg, iter, ifs, 0⟩] scope cpos) (some (.Name y py)) pos.line X.env = pure true := by exact sw_true rfl rfl rfl (by decide +kernel)) (hs : ∀ x, foldedSetIterable iter X.env x = pure x := by intro _; rfl) :
    WS X (.Assign [.Name y py] (.ListComp elt [⟨tg, iter, ifs, 0⟩] scope cpos) pos) ρ Φ :=
  ws_setLc i own hc hN ok hi (xs.map fun x => some (f x)) (by rw [he]; simp) (turns_map he turn) (by rw [he]; simpa using hl) (by rw [filterMap_some]; exact hΦ) hy hyl hsw hs
/-- for x in xs: I by the turn and the slots -/
theorem ws_forT (xs : List α) (enc : α → D) {body : List Stmt} (hc : X.calm = true) (hi : ID X ρ tg iter ds) (he : ds = xs.map enc) (I : Nat → En → Prop) (h0 : I 0 ρ)
    (hs : ∀ i x ρ', xs[i]? = some x → I i ρ' → ∃ is ρ'', DG X is tg (enc x) ρ' ρ'' ∧ WSs X body ρ'' (fun o => match o with | .nx r => I (i + 1) r | .ct r => I (i + 1) r | .bk r => Φ (.nx r) | .rt v => Φ (.rt v) | .ro c => Φ (.ro c) | .rc v cs => Φ (.rc v cs))) (hd : ∀ ρ', I xs.length ρ' → Φ (.nx ρ'))
    (hp : PassesOwn (model X.prog X.w) X.A X.env X.xe := by exact PassesOwn.never) (hf : ∀ x, foldedSetIterable iter X.env x = pure x := by intro _; rfl) : WS X (.For tg iter body [] pos) ρ Φ := by
  subst he
  refine ws_for hc hi I h0 (fun i d ρ' h1 h2 => ?_) (by simpa using hd) hp hf
  rw [List.getElem?_map] at h1
  cases q : xs[i]? with
  | none => rw [q] at h1; cases h1
  | some x =>
    rw [q] at h1
    cases h1
    exact hs i x ρ' q h2
end
def tru : D → Option Bool
  | .non => some false | .bl b => some b | .int i => some (i != 0) | .lst ds => some (!ds.isEmpty) | .tup ds => some (!ds.isEmpty) | _ => none
theorem DRs.emp {K : PySem.W.Frag} {H : Hp} {ds : List D} {vs : List V} (h : DRs K H ds vs) : vs.isEmpty = ds.isEmpty := by
  cases ds with
  | nil => cases (show vs = [] from h); rfl
  | cons d ds => obtain ⟨v, r, rfl, _⟩ := h; rfl
theorem td_truth {e : Expr} {d : D} {k : Bool} (h : ED X ρ e d) (hk : tru d = some k) (he : ∀ whole, isTrue e X.env whole = (do let v ← whole; standAt e.pos; holding [v] (truthy v)) := by intro _; rfl) : TD X ρ e k := fun B0 B σ H0 H Q j kk =>
  RT.of (pt_truth pe_star he) (h B0 B σ H0 H _ j fun v H0' H' g r => by
    cases d with
    | non => cases (show v = .non from r); cases hk; exact ⟨_, rfl, kk _ _ g⟩
    | bl _ => cases (show v = .bl _ from r); cases hk; exact ⟨_, rfl, kk _ _ g⟩
    | int _ => cases (show v = .int _ from r); cases hk; exact ⟨_, rfl, kk _ _ g⟩
    | lst ds =>
      obtain ⟨a, vs, rfl, h1, h2⟩ := r
      cases hk
      exact ⟨_, .inl ⟨vs, g.sh.seq h1, rfl⟩, by rw [h2.emp]; exact kk _ _ g⟩
    | tup ds =>
      obtain ⟨a, vs, rfl, h1, h2⟩ := r
      cases hk
      exact ⟨_, .inr (.inl ⟨vs, Same.seqT g.sh h1, rfl⟩), by rw [h2.emp]; exact kk _ _ g⟩
    | str _ => cases hk
    | ty _ => cases hk
    | dk _ _ => cases hk
    | dt _ _ => cases hk
    | obj _ _ _ => cases hk
    | ad _ => cases hk
    | ptp _ => cases hk
    | etp _ => cases hk
    | exc _ _ _ _ => cases hk)
theorem fn_wrap {P : Program} {w : World} {K : PySem.W.Frag} {mg : Str → Option Value} {base : Heap} {x : Str} {f : Addr} {fd : FuncData} {ps : List Str} {k : Nat} {R : List D → D → Prop} (hm : mg x = some (.ref f)) (hb : Binds K fd ps []) (kp : PySem.W.keepIn K (.ref f) = true) (F : FnOk P w K mg base CX0 k f fd ps (spR K R)) :
    Fn P w K mg base x k R := ⟨⟨f, fd, ps, F, hm, kp, hb⟩⟩
theorem b2_powL {i j n : Int} (h : CPow i j) (e : i ^ j.toNat = n) : B2 X .Pow (.int i) (.int j) (.int n) := e ▸ b2_pow h
theorem turn_if {Y : Cx} {scope : Scope} {vs : List Nat} {tg elt : Expr} {ifs : List Expr} {d y : D} {p : Bool} (h1 : p = true → Turn1 Y ρ scope vs tg elt ifs d (some y)) (h2 : p = false → Turn1 Y ρ scope vs tg elt ifs d none) :
    Turn1 Y ρ scope vs tg elt ifs d (if p = true then some y else none) := by
  cases p with
  | true => exact h1 rfl
  | false => exact h2 rfl
inductive Part (X : Cx) (ρ : En) : Option Expr → Option Int → Prop where
  | none : Part X ρ none none
  | some {e i} (h : ED X ρ e (.int i)) : Part X ρ (some e) (some i)
theorem no_part : Part X ρ none none := .none
theorem some_part {e i} (h : ED X ρ e (.int i)) : Part X ρ (some e) (some i) := .some h
def RP (X : Cx) (e : Option Expr) : TO := fun σ H Q => ∃ t, PO X e t ∧ t σ H Q
theorem po_star {e} : PO X e (RP X e) := ⟨fun pins s σ H Q I ⟨_, h, q⟩ => h.run pins s σ H Q I q⟩
theorem Part.run {e : Option Expr} {o : Option Int} (h : Part X ρ e o) {B0 B : Hp} {σ : L2.St} {H0 H : Hp} {Q : Option Int → Hp → Prop} (j : J X.K B0 B σ H0 H ρ) (k : ∀ H0' H', JH H0 H H0' H' → Q o H') : RP X e σ H Q := by
  cases h with
  | none => exact ⟨_, po_none, k H0 H (JH.refl j.same)⟩
  | some h => exact ⟨_, po_some pe_star, h B0 B σ H0 H _ j fun v H0' H' g r => ⟨_, r, k H0' H' g⟩⟩
def cutD (xs : List D) (lo hi : Option Int) : List D := (xs.drop (HT.sIx xs.length 0 lo)).take (HT.sIx xs.length xs.length hi - HT.sIx xs.length 0 lo)
theorem DRs.cut {K : PySem.W.Frag} {H : Hp} {ds : List D} {vs : List V} (h : DRs K H ds vs) (lo hi : Option Int) : DRs K H (cutD ds lo hi) (cutV vs lo hi) := by
  unfold cutD cutV
  rw [← DRs.length h]
  exact DRs.take _ (DRs.drop _ h)
theorem eo_slice {e : Expr} {lo hi : Option Expr} {p q : Option Int} {ds : List D} {p2 pos : Pos} (he : ED X ρ e (.lst ds)) (hl : Part X ρ lo p) (hh : Part X ρ hi q) : EO X ρ (.Subscript e (.Slice lo hi none p2) pos) (.lst (cutD ds p q)) := fun B0 B σ H0 H Q j k =>
  RE.of (pe_slice sl_list pe_star po_star po_star) (he B0 B σ H0 H _ j fun v G0 G g1 r => hl.run (j.grow g1) fun L0 L g2 => hh.run ((j.grow g1).grow g2) fun M0 M g3 => by
    obtain ⟨a, vs, rfl, h1, h2⟩ := r
    have g := g2.trans g3
    exact ⟨a, vs, rfl, g.sh.seq (g.s0.seq h1), fun p hp => k p _ M0 _ ((g1.trans g).trans (JH.own g.sh hp)) upd_same (g.sh.free hp) ((g1.trans g).sB.free hp) ⟨_, rfl, DRs.cut (DRs.mono g.s0 _ _ h2) _ _⟩⟩)
theorem rngD0 (n : Nat) : rngD 0 n = (List.range n).map fun (i : Nat) => D.int (i : Int) := by
  unfold rngD
  refine List.map_congr_left fun i _ => ?_
  rw [Int.zero_add]
/-- some slots changed -/
def upds (ρ : En) (l : List (Nat × Sl)) : En := l.foldl (fun r p => r.set p.1 p.2) ρ
/-- for x in xs: what changes from turn to turn is told slot by slot: G, of the turn and of what one doesn't care for (V reads it off) -/
theorem ws_forU {α U : Type} {tg iter : Expr} {ds : List D} {pos : Pos} {Φ : Out → Prop} (xs : List α) (enc : α → D) {body : List Stmt} (hc : X.calm = true) (hi : ID X ρ tg iter ds) (he : ds = xs.map enc) (G : Nat → U → List (Nat × Sl)) (V : En → U) (P : Nat → Prop) (hρ : upds ρ (G 0 (V ρ)) = ρ) (h0 : P 0)
    (hs : ∀ i x u, xs[i]? = some x → P i → ∃ is ρ'', DG X is tg (enc x) (upds ρ (G i u)) ρ'' ∧ WSs X body ρ'' (fun o => match o with | .nx r => upds ρ (G (i + 1) (V r)) = r ∧ P (i + 1) | .ct r => upds ρ (G (i + 1) (V r)) = r ∧ P (i + 1) | .bk r => Φ (.nx r) | .rt v => Φ (.rt v) | .ro c => Φ (.ro c) | .rc v cs => Φ (.rc v cs)))
    (hd : ∀ u, P xs.length → Φ (.nx (upds ρ (G xs.length u))))
    (hp : PassesOwn (model X.prog X.w) X.A X.env X.xe := by exact PassesOwn.never) (hf : ∀ x, foldedSetIterable iter X.env x = pure x := by intro _; rfl) : WS X (.For tg iter body [] pos) ρ Φ := by
  refine ws_forT xs enc hc hi he (fun i r => (∃ u, upds ρ (G i u) = r) ∧ P i) ⟨⟨V ρ, hρ⟩, h0⟩ (fun i x r hx hI => ?_) (fun r hI => ?_) hp hf
  · obtain ⟨⟨u, rfl⟩, p⟩ := hI
    obtain ⟨is, r2, h1, h2⟩ := hs i x u hx p
    refine ⟨is, r2, h1, ws_mono h2 fun o ho => ?_⟩
    cases o with
    | nx r => exact ⟨⟨_, ho.1⟩, ho.2⟩
    | ct r => exact ⟨⟨_, ho.1⟩, ho.2⟩
    | bk r => exact ho
    | rt v => exact ho
    | ro c => exact ho
    | rc v cs => exact ho
  · obtain ⟨⟨u, rfl⟩, p⟩ := hI
    exact hd u p
end
theorem bb_len : bootBuiltins (PySem.Str.ofString "len") = some (.builtin "len") := by decide +kernel
theorem bb_min : bootBuiltins (PySem.Str.ofString "min") = some (.builtin "min") := by decide +kernel
theorem bb_sum : bootBuiltins (PySem.Str.ofString "sum") = some (.builtin "sum") := by decide +kernel
theorem bb_all : bootBuiltins (PySem.Str.ofString "all") = some (.builtin "all") := by decide +kernel
theorem bb_isinstance : bootBuiltins (PySem.Str.ofString "isinstance") = some (.builtin "isinstance") := by decide +kernel
theorem bb_int : bootBuiltins (PySem.Str.ofString "int") = some (.type "int") := by decide +kernel
theorem bb_tuple : bootBuiltins (PySem.Str.ofString "tuple") = some (.type "tuple") := by decide +kernel
theorem bb_list : bootBuiltins (PySem.Str.ofString "list") = some (.type "list") := by decide +kernel
theorem bb_str : bootBuiltins (PySem.Str.ofString "str") = some (.type "str") := by decide +kernel
theorem bb_set : bootBuiltins (PySem.Str.ofString "set") = some (.type "set") := by decide +kernel
end DL
namespace DL
open PySem PySem.Spec PyProof.Rows L2
/-- data of ints and short texts, n deep -/
def smallStr (x : Str) : Prop := PyData.strOk x = true
inductive Cm : Nat → D → Prop where
  | int {n i} : Cm n (.int i)
  | str {n x} (h : smallStr x) : Cm n (.str x)
  | tup {n ds} (h : ∀ d ∈ ds, Cm n d) : Cm (n + 1) (.tup ds)
  | lst {n ds} (h : ∀ d ∈ ds, Cm n d) : Cm (n + 1) (.lst ds)
theorem Cm.mono {n m : Nat} (h : n ≤ m) {d : D} (c : Cm n d) : Cm m d := by
  induction c generalizing m with
  | int => exact .int
  | str q => exact .str q
  | tup _ ih =>
    obtain ⟨m, rfl⟩ : ∃ m', m = m' + 1 := ⟨m - 1, by omega⟩
    exact .tup fun d hd => ih d hd (by omega)
  | lst _ ih =>
    obtain ⟨m, rfl⟩ : ∃ m', m = m' + 1 := ⟨m - 1, by omega⟩
    exact .lst fun d hd => ih d hd (by omega)
theorem plains_iff : ∀ {ds : List D}, (∀ d ∈ ds, d.plain = true) → D.plains ds = true
  | [], _ => by simp [D.plains]
  | d :: ds, h => by simp only [D.plains, Bool.and_eq_true]; exact ⟨h d (by simp), plains_iff fun e he => h e (by simp [he])⟩
theorem lays_iff : ∀ {ds : List D}, (∀ d ∈ ds, d.py.canLay0 = true) → PyData.canLayAll0 (D.pys ds) = true
  | [], _ => by simp [D.pys, PyData.canLayAll0]
  | d :: ds, h => by simp only [D.pys, PyData.canLayAll0, Bool.and_eq_true]; exact ⟨h d (by simp), lays_iff fun e he => h e (by simp [he])⟩
theorem depths_le : ∀ {ds : List D} {n : Nat}, (∀ d ∈ ds, d.py.depth ≤ n) → PyData.depthAll (D.pys ds) ≤ n
  | [], n, _ => by simp [D.pys, PyData.depthAll]
  | d :: ds, n, h => by
    simp only [D.pys, PyData.depthAll]
    have h1 := h d (by simp)
    have h2 := depths_le (ds := ds) (n := n) fun e he => h e (by simp [he])
    omega
theorem Cm.plain {n : Nat} {d : D} (c : Cm n d) : d.plain = true := by
  induction c with
  | int => simp [D.plain]
  | str _ => simp [D.plain]
  | tup _ ih => simp only [D.plain]; exact plains_iff ih
  | lst _ ih => simp only [D.plain]; exact plains_iff ih
theorem Cm.lay {n : Nat} {d : D} (c : Cm n d) : d.py.canLay0 = true := by
  induction c with
  | int => simp [D.py, PyData.canLay0]
  | str h => simp only [D.py, PyData.canLay0]; exact h
  | tup _ ih => simp only [D.py, PyData.canLay0]; exact lays_iff ih
  | lst _ ih => simp only [D.py, PyData.canLay0]; exact lays_iff ih
theorem Cm.depth {n : Nat} {d : D} (c : Cm n d) : d.py.depth ≤ n + 1 := by
  induction c with
  | int => simp [D.py, PyData.depth]
  | str _ => simp [D.py, PyData.depth]
  | tup _ ih => simp only [D.py, PyData.depth]; have := depths_le ih; omega
  | lst _ ih => simp only [D.py, PyData.depth]; have := depths_le ih; omega
theorem Cm.cmp {n : Nat} {d : D} (c : Cm n d) (hn : n ≤ 63) : Cmp d := ⟨c.plain, by
  unfold SeqAt.shaped
  rw [c.lay]
  have := c.depth
  simp; omega⟩
theorem Cm.inv {n : Nat} {d : D} (c : Cm n d) : (∃ i, d = .int i) ∨ (∃ x, d = .str x) ∨ (∃ ds m, d = .tup ds ∧ n = m + 1 ∧ ∀ e ∈ ds, Cm m e) ∨ (∃ ds m, d = .lst ds ∧ n = m + 1 ∧ ∀ e ∈ ds, Cm m e) := by
  cases c with
  | int => exact .inl ⟨_, rfl⟩
  | str _ => exact .inr (.inl ⟨_, rfl⟩)
  | tup h => exact .inr (.inr (.inl ⟨_, _, rfl, rfl, h⟩))
  | lst h => exact .inr (.inr (.inr ⟨_, _, rfl, rfl, h⟩))
theorem eqvs_iff {n m : Nat} (ih : ∀ d e, Cm n d → Cm m e → (PyData.eqv d.py e.py = true ↔ d = e)) : ∀ (ds es : List D), (∀ d ∈ ds, Cm n d) → (∀ e ∈ es, Cm m e) → (PyData.eqvAll (D.pys ds) (D.pys es) = true ↔ ds = es)
  | [], [], _, _ => by simp [D.pys, PyData.eqvAll]
  | [], e :: es, _, _ => by simp [D.pys, PyData.eqvAll]
  | d :: ds, [], _, _ => by simp [D.pys, PyData.eqvAll]
  | d :: ds, e :: es, h1, h2 => by
    have h3 := eqvs_iff ih ds es (fun x hx => h1 x (by simp [hx])) (fun x hx => h2 x (by simp [hx]))
    have h4 := ih d e (h1 d (by simp)) (h2 e (by simp))
    simp only [D.pys, PyData.eqvAll, Bool.and_eq_true, h3, h4, List.cons.injEq]
theorem eqv_iff : ∀ (n m : Nat) (d e : D), Cm n d → Cm m e → (PyData.eqv d.py e.py = true ↔ d = e)
  | n, m, d, e, c, c' => by
    rcases c.inv with ⟨i, rfl⟩ | ⟨x, rfl⟩ | ⟨ds, k, rfl, rfl, h⟩ | ⟨ds, k, rfl, rfl, h⟩ <;> rcases c'.inv with ⟨j, rfl⟩ | ⟨y, rfl⟩ | ⟨es, l, rfl, rfl, h'⟩ | ⟨es, l, rfl, rfl, h'⟩
    · simp [D.py, PyData.eqv]
    · simp [D.py, PyData.eqv]
    · simp [D.py, PyData.eqv]
    · simp [D.py, PyData.eqv]
    · simp [D.py, PyData.eqv]
    · simp [D.py, PyData.eqv]
    · simp [D.py, PyData.eqv]
    · simp [D.py, PyData.eqv]
    · simp [D.py, PyData.eqv]
    · simp [D.py, PyData.eqv]
    · simp only [D.py, PyData.eqv, D.tup.injEq]
      exact eqvs_iff (fun d e c c' => eqv_iff k l d e c c') ds es h h'
    · simp [D.py, PyData.eqv]
    · simp [D.py, PyData.eqv]
    · simp [D.py, PyData.eqv]
    · simp [D.py, PyData.eqv]
    · simp only [D.py, PyData.eqv, D.lst.injEq]
      exact eqvs_iff (fun d e c c' => eqv_iff k l d e c c') ds es h h'
theorem Cm.ints {n : Nat} {ns : List Int} : ∀ d ∈ ns.map D.int, Cm n d := fun d hd => by
  obtain ⟨i, _, rfl⟩ := List.mem_map.mp hd
  exact .int
section
variable {X : Cx} {ρ : En}
theorem c2_eqC {n m : Nat} {d e : D} {k : Bool} (hu : X.A.units + 64 < cLine) (c : Cm n d) (c' : Cm m e) (hk : k = true ↔ d = e) (hn : n ≤ 63 := by decide) (hm : m ≤ 63 := by decide) : C2 X .Eq d e (.bl k) := by
  refine c2_eqD hu (c.cmp hn) (c'.cmp hm) ?_
  have h := eqv_iff n m d e c c'
  cases k with
  | true => exact h.mpr (hk.mp rfl)
  | false =>
    cases q : PyData.eqv d.py e.py with
    | false => rfl
    | true => exact absurd (hk.mpr (h.mp q)) (by simp)
theorem c2_neC {n m : Nat} {d e : D} {k : Bool} (hu : X.A.units + 64 < cLine) (c : Cm n d) (c' : Cm m e) (hk : k = true ↔ d = e) (hn : n ≤ 63 := by decide) (hm : m ≤ 63 := by decide) : C2 X .NotEq d e (.bl (!k)) := by
  refine c2_neD hu (c.cmp hn) (c'.cmp hm) ?_
  have h := eqv_iff n m d e c c'
  cases k with
  | true => exact h.mpr (hk.mp rfl)
  | false =>
    cases q : PyData.eqv d.py e.py with
    | false => rfl
    | true => exact absurd (hk.mpr (h.mp q)) (by simp)
def KD (K : PySem.W.Frag) (d : D) (u : Value) : Prop := ∃ v, RelV v u ∧ ∀ H, DR K H d v
def KDs (K : PySem.W.Frag) (ds : List D) (us : List Value) : Prop := ∃ vs, Vals vs us ∧ ∀ H, DRs K H ds vs
theorem kd_int {K : PySem.W.Frag} {i : Int} {t : Tok} : KD K (.int i) (.int i t) := ⟨.int i, ⟨t, rfl⟩, fun _ => rfl⟩
theorem kd_bl {K : PySem.W.Frag} {b : Bool} : KD K (.bl b) (.bool b) := ⟨.bl b, rfl, fun _ => rfl⟩
theorem kd_str {K : PySem.W.Frag} {x : Str} {t : Tok} : KD K (.str x) (.str x t) := ⟨.str x, ⟨t, rfl⟩, fun _ => rfl⟩
theorem kds_nil {K : PySem.W.Frag} : KDs K [] [] := ⟨[], .nil, fun _ => rfl⟩
theorem kds_cons {K : PySem.W.Frag} {d : D} {ds : List D} {u : Value} {us : List Value} (h : KD K d u) (r : KDs K ds us) : KDs K (d :: ds) (u :: us) := by
  obtain ⟨v, h1, h2⟩ := h
  obtain ⟨vs, h3, h4⟩ := r
  exact ⟨v :: vs, .cons h1 h3, fun H => ⟨v, vs, rfl, h2 H, h4 H⟩⟩
theorem kd_tup {K : PySem.W.Frag} {a : Addr} {o : Obj} {ds : List D} {its : Array Value} {n : Nat} (l : K.lookup a = some o) (c : o.cls = .type "tuple") (e : o.data = .seq its n) (z : its.size ≤ sizeLine) (r : KDs K ds its.toList) : KD K (.tup ds) (.ref a) := by
  obtain ⟨vs, h1, h2⟩ := r
  exact ⟨.ref a, rfl, fun H => ⟨a, vs, rfl, .inr ⟨o, its, n, l, c, e, z, h1⟩, h2 H⟩⟩
structure Cst (K : PySem.W.Frag) (mg : Str → Option Value) (x : Str) (d : D) : Prop where
  ex : ∃ u, mg x = some u ∧ KD K d u
theorem ed_const {x : Str} {d : D} {pos : Pos} (h : Cst X.K X.mg x d) (hg : Gl X x) (hd : (x == ("__debug__" : Str)) = false := by decide) : ED X ρ (.Name x pos) d := fun B0 B σ H0 H Q j k => by
  obtain ⟨u, h1, v, h2, h3⟩ := h.ex
  exact RE.of (pe_glob hg h1 h2 hd) (k v H0 H (JH.refl j.same) (h3 H0))
inductive KWs (X : Cx) (ρ : En) : List Keyword → List D → Prop where
  | nil : KWs X ρ [] []
  | cons {nm e p kws d ds} (h : ED X ρ e d) (r : KWs X ρ kws ds) : KWs X ρ (⟨nm, e, p⟩ :: kws) (d :: ds)
def RK (X : Cx) (kws : List Keyword) : TA := fun σ H Q => ∃ t, PK X kws t ∧ t σ H Q
theorem pk_star {kws} : PK X kws (RK X kws) := ⟨fun pos pins s σ H Q I ⟨_, h, q⟩ => h.run pos pins s σ H Q I q⟩
theorem KWs.run {kws : List Keyword} {ds : List D} (h : KWs X ρ kws ds) : ∀ {B0 B : Hp} {σ : L2.St} {H0 H : Hp} {Q : List V → Hp → Prop}, J X.K B0 B σ H0 H ρ → (∀ vs H0' H', JH H0 H H0' H' → DRs X.K H0' ds vs → Q vs H') → RK X kws σ H Q := by
  induction h with
  | nil => exact fun j k => ⟨_, pk_nil, k [] _ _ (JH.refl j.same) rfl⟩
  | cons h r ih =>
    intro B0 B σ H0 H Q j k
    exact ⟨_, pk_cons pe_star pk_star, h B0 B σ H0 H _ j fun v G0 G g1 r1 => ih (j.grow g1) fun vs L0 L g2 r2 => k (v :: vs) L0 L (g1.trans g2) ⟨v, vs, rfl, DR.mono g2.s0 _ _ r1, r2⟩⟩
end
section
variable {X : Cx} {ρ : En}
theorem ed_ifv {c a b : Expr} {k : Bool} {d e : D} {pos : Pos} (h : TD X ρ c k) (h1 : k = true → ED X ρ a d) (h2 : k = false → ED X ρ b e) : ED X ρ (.IfExp c a b pos) (if k = true then d else e) :=
  ed_if h (fun q => by subst q; exact h1 rfl) (fun q => by subst q; exact h2 rfl)
end
section
variable {X : Cx}
theorem map_int_inj {ns ms : List Int} : ns.map D.int = ms.map D.int ↔ ns = ms := by
  constructor
  · intro h
    exact List.map_inj_right (f := D.int) (fun a b e => by cases e; rfl) |>.mp h
  · rintro rfl; rfl
theorem c2_eqInts {ns ms : List Int} (hu : X.A.units + 64 < cLine) : C2 X .Eq (.tup (ns.map .int)) (.tup (ms.map .int)) (.bl (decide (ns = ms))) :=
  c2_eqC (n := 1) (m := 1) hu (.tup Cm.ints) (.tup Cm.ints) (by simp [map_int_inj])
theorem c2_neInts {ns ms : List Int} (hu : X.A.units + 64 < cLine) : C2 X .NotEq (.tup (ns.map .int)) (.tup (ms.map .int)) (.bl (!decide (ns = ms))) :=
  c2_neC (n := 1) (m := 1) hu (.tup Cm.ints) (.tup Cm.ints) (by simp [map_int_inj])
theorem c2_eqIntsL {ns ms : List Int} (hu : X.A.units + 64 < cLine) : C2 X .Eq (.lst (ns.map .int)) (.lst (ms.map .int)) (.bl (decide (ns = ms))) :=
  c2_eqC (n := 1) (m := 1) hu (.lst Cm.ints) (.lst Cm.ints) (by simp [map_int_inj])
theorem c2_eq2 {a b c d : Int} (hu : X.A.units + 64 < cLine) : C2 X .Eq (.tup [.int a, .int b]) (.tup [.int c, .int d]) (.bl (decide ([a, b] = [c, d]))) := c2_eqInts (ns := [a, b]) (ms := [c, d]) hu
theorem c2_ne2 {a b c d : Int} (hu : X.A.units + 64 < cLine) : C2 X .NotEq (.tup [.int a, .int b]) (.tup [.int c, .int d]) (.bl (!decide ([a, b] = [c, d]))) := c2_neInts (ns := [a, b]) (ms := [c, d]) hu
theorem c2_eq4 {a b c d e f g h : Int} (hu : X.A.units + 64 < cLine) : C2 X .Eq (.tup [.int a, .int b, .int c, .int d]) (.tup [.int e, .int f, .int g, .int h]) (.bl (decide ([a, b, c, d] = [e, f, g, h]))) := c2_eqInts (ns := [a, b, c, d]) (ms := [e, f, g, h]) hu
theorem c2_ne4 {a b c d e f g h : Int} (hu : X.A.units + 64 < cLine) : C2 X .NotEq (.tup [.int a, .int b, .int c, .int d]) (.tup [.int e, .int f, .int g, .int h]) (.bl (!decide ([a, b, c, d] = [e, f, g, h]))) := c2_neInts (ns := [a, b, c, d]) (ms := [e, f, g, h]) hu
end
section
variable {X : Cx} {ρ ρ' : En}
section
variable {elt tg iter : Expr} {ifs : List Expr} {scope : Scope} {ds : List D} {cpos pos : Pos} {α β : Type} {Φ : Out → Prop}
/-- [f x for x in xs], the items of a kind -/
theorem eo_map2 (own : List (Str × Nat)) (xs : List α) (enc : α → D) (g : α → β) (enc2 : β → D) (hc : X.calm = true) (hN : X.N.Nodup) (ok : BlkOk X.N X.env.scope scope own) (hi : ID X ρ tg iter ds) (he : ds = xs.map enc) (turn : ∀ x ∈ xs, Turn1 X ρ scope (own.map (·.2)) tg elt ifs (enc x) (some (enc2 (g x)))) (hl : xs.length ≤ sizeLine)
    (hs : ∀ x, foldedSetIterable iter X.env x = pure x := by intro _; rfl) : EO X ρ (.ListComp elt [⟨tg, iter, ifs, 0⟩] scope cpos) (.lst ((xs.map g).map enc2)) := by
  have h := eo_map (cpos := cpos) own xs enc (fun x => enc2 (g x)) hc hN ok hi he turn hl hs
  rw [List.map_map]; exact h
theorem ws_setMap2 (i : Nat) (own : List (Str × Nat)) (xs : List α) (enc : α → D) (g : α → β) (enc2 : β → D) {y : Str} {py : Pos} (hc : X.calm = true) (hN : X.N.Nodup) (ok : BlkOk X.N X.env.scope scope own) (hi : ID X ρ tg iter ds) (he : ds = xs.map enc) (turn : ∀ x ∈ xs, Turn1 X ρ scope (own.map (·.2)) tg elt ifs (enc x) (some (enc2 (g x)))) (hl : xs.length ≤ sizeLine)
    (hΦ : Φ (.nx (ρ.set i (.ow (.lst ((xs.map g).map enc2)))))) (hy : X.N[i]? = some y := by rfl) (hyl : X.env.scope.names.lookup y = some .local := by rfl)
    (hsw : swapsWith (.ListComp elt [⟨tg, iter, ifs, 0⟩] scope cpos) (some (.Name y py)) pos.line X.env = pure true := by exact sw_true rfl rfl rfl (by decide +kernel)) (hs : ∀ x, foldedSetIterable iter X.env x = pure x := by intro _; rfl) :
    WS X (.Assign [.Name y py] (.ListComp elt [⟨tg, iter, ifs, 0⟩] scope cpos) pos) ρ Φ :=
  ws_setMap i own xs enc (fun x => enc2 (g x)) hc hN ok hi he turn hl (by rw [List.map_map] at hΦ; exact hΦ) hy hyl hsw hs
end
end
end DL
namespace DL
open PySem
/-- the k-th number of a script, 0 behind its end -/
def cellAt (ns : List Int) (k : Int) : Int := ns.getD k.toNat 0
def mix1 (c k : Int) : Int := (c * 48271 + (k + 1) * 69621) % 2147483647
def mix2 (c k : Int) : Int := (mix1 c k * mix1 c k + mix1 c k * 16807 + k * 7919) % 2147483629
def mix3 (c k : Int) : Int := (mix2 c k * mix2 c k + c + 13 * k) % 2147483587
def drawStep (c : Int) (a : List Int × Int) (k : Nat) : List Int × Int :=
  if 1000000000000000000 ≤ c ∧ 0 < a.2 then (a.1 ++ [a.2 % 4096], a.2 / 4096) else (a.1 ++ [mix3 c k / 7 % 4096], a.2)
def drawn (c : Int) (n : Nat) : List Int × Int := (List.range n).foldl (drawStep c) ([], c)
def draws (c n : Int) : List Int := (drawn c n.toNat).1
theorem drawn_succ (c : Int) (n : Nat) : drawn c (n + 1) = drawStep c (drawn c n) n := by
  unfold drawn; rw [List.range_succ, List.foldl_append]; rfl
theorem draws_spec (c : Int) : ∀ n, (drawn c n).1.length = n ∧ ∀ x ∈ (drawn c n).1, 0 ≤ x ∧ x < 4096
  | 0 => by simp [drawn]
  | n + 1 => by
    obtain ⟨h1, h2⟩ := draws_spec c n
    rw [drawn_succ]
    unfold drawStep
    split
    · refine ⟨by simp [h1], fun x hx => ?_⟩
      simp only [List.mem_append, List.mem_singleton] at hx
      rcases hx with hx | rfl
      · exact h2 x hx
      · omega
    · refine ⟨by simp [h1], fun x hx => ?_⟩
      simp only [List.mem_append, List.mem_singleton] at hx
      rcases hx with hx | rfl
      · exact h2 x hx
      · omega
theorem draws_len (c n : Int) : (draws c n).length = n.toNat := (draws_spec c _).1
/-- the k-th draw -/
def dr (c n k : Int) : Int := (draws c n).getD k.toNat 0
theorem dr_get {c n k : Int} (h0 : 0 ≤ k) (h : k < n) : (draws c n)[k.toNat]? = some (dr c n k) := by
  unfold dr
  have : k.toNat < (draws c n).length := by rw [draws_len]; omega
  simp [this]
theorem dr_lo (c n k : Int) : 0 ≤ dr c n k ∧ dr c n k < 4096 := by
  unfold dr
  rw [List.getD_eq_getElem?_getD]
  cases q : (draws c n)[k.toNat]? with
  | none => simp
  | some x => exact (draws_spec c _).2 _ (List.mem_of_getElem? q)
/-- an item of a list of numbers -/
theorem at_ints {ns : List Int} {i : Int} {k : Nat} {x : Int} (e : i = k) (h : ns[k]? = some x) : L2.atI (ns.map D.int) i = some (.int x) := by
  subst e
  exact L2.atI_nat (by rw [List.getElem?_map, h]; rfl)
theorem at_draws {c n i : Int} (h0 : 0 ≤ i) (h : i < n) : L2.atI ((draws c n).map D.int) i = some (.int (dr c n i)) :=
  at_ints (k := i.toNat) (by omega) (dr_get h0 h)
def tC (t : Int) : Int := if t = 1 then 1 else if t = 3 then -1 else if t = 5 then -1 else if t = 7 then 1 else 0
def tD (t : Int) : Int := if t = 0 then 1 else if t = 2 then -1 else if t = 4 then 1 else if t = 6 then -1 else 0
def ty (t x y : Int) : Int := tC t * x + tD t * y
def ct (f s : Int) : Int := (if 4 ≤ s then s - f else s + f) % 4 + (if ((4 ≤ f) ↔ (4 ≤ s)) then 0 else 4)
def inv (t : Int) : Int := if 4 ≤ t then t else (4 - t) % 4
structure Bx where
  a : Int
  b : Int
  c : Int
  d : Int
  deriving DecidableEq
def Bx.e (x : Bx) : D := .tup [.int x.a, .int x.b, .int x.c, .int x.d]
theorem Bx.inj {x y : Bx} (h : x.e = y.e) : x = y := by
  cases x; cases y
  simp only [Bx.e, D.tup.injEq, List.cons.injEq, D.int.injEq] at h
  simp [h.1, h.2.1, h.2.2.1, h.2.2.2.1]
theorem Bx.cm (x : Bx) : Cm 1 x.e := .tup (Cm.ints (ns := [x.a, x.b, x.c, x.d]))
theorem Bx.cms {bs : List Bx} : ∀ d ∈ bs.map Bx.e, Cm 1 d := fun d hd => by
  obtain ⟨x, _, rfl⟩ := List.mem_map.mp hd
  exact x.cm
end DL
namespace DL
open PySem PySem.Spec PyProof.Rows L2
abbrev Sq := Int × Int
def kq (p : Sq) : List Key := [.inl p.1, .inl p.2]
def dicD (ks : List Sq) : OC := .dt (ks.map kq) ((ks.map fun _ => true).map D.bl)
theorem kq_inj {p q : Sq} : kq p = kq q ↔ p = q := by
  constructor
  · intro h
    simp only [kq, List.cons.injEq, Sum.inl.injEq, and_true] at h
    exact Prod.ext h.1 h.2
  · rintro rfl; rfl
def tT (ks : List Sq) : List (List Key × V) := ks.map fun q => (kq q, V.bl true)
theorem zipT (ks : List Sq) : (ks.map kq).zip ((ks.map fun _ => true).map V.bl) = tT ks := by
  induction ks with
  | nil => rfl
  | cons k ks ih => simp only [List.map_cons, List.zip_cons_cons, ih]; rfl
theorem tT_any (ks : List Sq) (p : Sq) : ((tT ks).any fun kv => decide (kv.1 = kq p)) = decide (p ∈ ks) := by
  induction ks with
  | nil => rfl
  | cons k ks ih =>
    have e : tT (k :: ks) = (kq k, V.bl true) :: tT ks := rfl
    rw [e, List.any_cons, ih, Bool.eq_iff_iff]
    simp only [Bool.or_eq_true, decide_eq_true_eq, List.mem_cons, kq_inj]
    exact or_congr ⟨Eq.symm, Eq.symm⟩ Iff.rfl
theorem tT_val (ks : List Sq) (p : Sq) : (valV (tT ks) (kq p)).isSome = decide (p ∈ ks) := by
  rw [← valV_any, tT_any]
theorem dr_dic {K : PySem.W.Frag} {H0 : Hp} {ks : List Sq} {v : V} (h : DR K H0 (dicD ks).d v) : ∃ a, v = .ref a ∧ Rd H0 a (.dT (tT ks)) := by
  obtain ⟨a, vs, rfl, h1, hl, r⟩ := h
  rw [DRs.bls r, zipT] at h1
  exact ⟨a, rfl, h1⟩
section
variable {X : Cx} {ρ : En} {Φ : Out → Prop} {pos : Pos}
/-- square in d -/
theorem op_inSq (hu : X.A.units + 1 < cLine) : OpR X (compareOp .In) (fun x y H Q => ∃ (a b : Addr) (kvs : List (List Key × V)) (k : List Key), x = .ref b ∧ y = .ref a ∧ Rd H a (.dT kvs) ∧ SqT X.K H b (k.map kV) ∧ Q (.bl (valV kvs k).isSome) H) := by
  rintro pins s σ H x y v u Q I rx ry ⟨a, b, kvs, k, rfl, rfl, h1, h2, q⟩
  cases (show v = Value.ref b from rx); cases (show u = Value.ref a from ry)
  obtain ⟨z, hd, xs, rel, dd⟩ := dt_rd I.hok h1
  obtain ⟨its, r, ⟨o, e, c, n, dat⟩, _⟩ := I.tuple h2
  refine wpAny_in_heap (tupleKind_room_in1 hu) (k := k) ⟨o, its.toArray, n, e, c, dat, by simpa using items_are r⟩ hd dd ?_
  have qq := (rel.val k).isSome_eq
  rw [Option.isSome_map] at qq
  rw [← qq]
  exact ⟨.bl (valV kvs k).isSome, H, I.tok _, rfl, q⟩
theorem c2_inSq {p1 p2 : Int} {ks : List Sq} (hu : X.A.units + 64 < cLine) : C2 X .In (.tup [.int p1, .int p2]) (dicD ks).d (.bl (decide ((p1, p2) ∈ ks))) := ⟨_, op_inSq (by omega), fun H0 H x y Q s r1 r2 kk => by
  obtain ⟨b, vs, rfl, h1, r⟩ := r1
  obtain ⟨v, w, rfl, e1, e2⟩ := r.two
  cases (show v = .int p1 from e1); cases (show w = .int p2 from e2)
  obtain ⟨a, rfl, h2⟩ := dr_dic r2
  exact ⟨a, b, _, kq (p1, p2), rfl, rfl, Same.rd s h2, Same.seqT s h1, kk _ H0 H (JH.refl s) (by rw [tT_val]; rfl)⟩⟩
end
end DL
namespace DL
open PySem
def sel3 (p q r m : Int) : Int := if m = 0 then p else if m = 1 then q else r
theorem ix_sel3 {p q r m : Int} (h : 0 ≤ m ∧ m < 3) : IX (.lst [.int p, .int q, .int r]) (.int m) (.int (sel3 p q r m)) := by
  have : m = 0 ∨ m = 1 ∨ m = 2 := by omega
  rcases this with rfl | rfl | rfl
  · exact IX.l0
  · exact IX.l1
  · exact IX.l2
end DL
namespace DL
open PySem PySem.Spec PyProof.Rows L2
section
variable {X : Cx} {ρ ρ' : En}
/-- z[i], z a text -/
theorem ed_ixS {a b : Expr} {z : Str} {i : Int} {c : Nat} {pos : Pos} (ha : ED X ρ a (.str z)) (hb : ED X ρ b (.int i)) (hz : z.length ≤ sizeLine) (h : atI z.cps.toList i = some c) (hs : PlainIx b := by exact fun _ _ => rfl) : ED X ρ (.Subscript a b pos) (.str ⟨#[c]⟩) := fun B0 B σ H0 H Q j kk => by
  refine RE.of (pe_ix ix_str pe_star pe_star hs) (ha B0 B σ H0 H _ j fun x G0 G g1 r1 => hb B0 B σ G0 G _ (j.grow g1) fun y L0 L g2 r2 => ?_)
  exact ⟨z, i, c, r1, r2, hz, h, kk _ L0 L (g1.trans g2) rfl⟩
theorem DG.mono {is is' : List Nat} {tg : Expr} {d : D} (h : DG X is tg d ρ ρ') (hi : ∀ k ∈ is, k ∈ is') : DG X is' tg d ρ ρ' := fun B0 B σ H0 H v Q j r k =>
  h B0 B σ H0 H v Q j r fun σ' j' off => k σ' j' fun m hm => off m fun z => hm (hi m z)
end
end DL
namespace DL
open PySem L2
def tI (t : List Int) : D := .tup (t.map .int)
def ltr : Str := "abcdefghijklmnopqrstuvwxyz"
def tls : List Str := ["", "1", "n2", "ab", "z9", "q0q"]
theorem ltr_len : ltr.cps.toList.length = 26 := by decide +kernel
theorem at_ltr {i : Int} (h0 : 0 ≤ i) (h1 : i < 26) : atI ltr.cps.toList i = some (ltr.cps.toList.getD i.toNat 0) := by
  refine atI_nn h0 ?_
  have : i.toNat < ltr.cps.toList.length := by rw [ltr_len]; omega
  rw [List.getD_eq_getElem?_getD, List.getElem?_eq_getElem this]; rfl
theorem at_tls {i : Int} (h0 : 0 ≤ i) (h1 : i < 6) : atI (tls.map D.str) i = some (.str (tls.getD i.toNat "")) := by
  refine atI_nn h0 ?_
  have : i.toNat < tls.length := by show i.toNat < 6; omega
  rw [List.getElem?_map, List.getD_eq_getElem?_getD, List.getElem?_eq_getElem this]; rfl
theorem tls_len (i : Nat) : (tls.getD i "").length ≤ 3 := by
  match i with
  | 0 => decide +kernel
  | 1 => decide +kernel
  | 2 => decide +kernel
  | 3 => decide +kernel
  | 4 => decide +kernel
  | 5 => decide +kernel
  | i + 6 => 
    rw [List.getD_eq_getElem?_getD, List.getElem?_eq_none (by show 6 ≤ i + 6; omega)]
    decide +kernel
def nmOf (d : Int) : Str := (⟨#[ltr.cps.toList.getD (d % 26).toNat 0]⟩ : Str) ++ tls.getD (d / 26 % 6).toNat ""
end DL
namespace DL
open PySem PySem.Spec PyProof.Rows L2
/-- c stands at a, and some slot owns it -/
structure Cell (ρ : En) (a : Addr) (c : OC) : Prop where
  ex : ∃ (i : Nat) (cs : List (Addr × OC)) (d : D), ρ[i]? = some (.ox cs d) ∧ (a, c) ∈ cs
section
variable {K : PySem.W.Frag} {B0 B H0 H : Hp} {σ : L2.St} {ρ : En}
theorem J.at (j : J K B0 B σ H0 H ρ) {a : Addr} {c : OC} (h : Cell ρ a c) : ∃ o, H a = some o ∧ H0 a = none ∧ B a = none ∧ OCR K H0 c o := by
  obtain ⟨i, cs, d, h1, h2⟩ := h.ex
  exact j.cell h1 h2
end
section
variable {X : Cx} {ρ : En} {Φ : Out → Prop} {e a b : Expr} {pos : Pos} {d : D} {rest : List Stmt}
theorem ed_varX (i : Nat) {x : Str} {cs : List (Addr × OC)} (hρ : ρ[i]? = some (.ox cs d)) (hN : X.N[i]? = some x := by rfl) (hv : Vis X.env.scope x := by first | exact Or.inl rfl | exact Or.inr (Or.inl rfl) | exact Or.inr (Or.inr rfl)) (hd : (x == ("__debug__" : Str)) = false := by decide)
    (hcd : (x == ("__classdict__" : Str)) = false := by decide) : ED X ρ (.Name x pos) d := fun B0 B σ H0 H Q j k => by
  obtain ⟨ov, h1, ⟨v, rfl, h2⟩, _⟩ := j.get hρ
  exact RE.of (pe_var hN hv hd hcd) ⟨v, h1, k v H0 H (JH.refl j.same) h2⟩
/-- .. that a slot owns -/
theorem ed_ixO (m : Nat) {x : Str} {p1 : Pos} {ds : List D} {i : Int} (hρ : ρ[m]? = some (.ow (.lst ds))) (hb : ED X ρ b (.int i)) (h : atI ds i = some d) (hs : PlainIx b := by exact fun _ _ => rfl) (hN : X.N[m]? = some x := by rfl) (hv : Vis X.env.scope x := by first | exact Or.inl rfl | exact Or.inr (Or.inl rfl) | exact Or.inr (Or.inr rfl)) (hd : (x == ("__debug__" : Str)) = false := by decide)
    (hcd : (x == ("__classdict__" : Str)) = false := by decide) : ED X ρ (.Subscript (.Name x p1) b pos) d := fun B0 B σ H0 H Q j kk => by
  obtain ⟨ov, e0, p, o, rfl, _⟩ := j.get hρ
  refine RE.of (pe_ix ix_list (pe_var hN hv hd hcd) pe_star hs) ⟨_, e0, hb B0 B σ H0 H _ j fun y L0 L g2 r2 => ?_⟩
  obtain ⟨ov', e0', p', o', e3, h1, h2, h3, vs, rfl, r⟩ := (j.grow g2).get hρ
  rw [e0] at e0'; cases e0'; cases e3
  obtain ⟨k, e1, e2, _⟩ := atI_get h
  obtain ⟨v, h3, h4⟩ := DRs.get r e2
  have e4 : atI vs i = some v := by
    unfold atI at h ⊢
    rw [← DRs.length r]
    cases q : ixN ds.length i with
    | none => rw [q] at h; cases h
    | some m =>
      rw [q] at h
      have := (ixN_seq q).1
      rw [e1] at this
      cases this
      exact h3
  exact ⟨p, vs, i, v, rfl, r2, SqL.of h1, e4, kk v L0 L g2 h4⟩
/-- e.append(f), e a list at a place -/
theorem ws_appendA (i : Nat) {p : Addr} {cs : List (Addr × OC)} {d0 : D} {ds : List D} {p2 p3 : Pos} (hi : ρ[i]? = some (.ox cs d0)) (hm : (p, OC.lst ds) ∈ cs) (ha : ED X ρ a (.ad p)) (he : ED X ρ e d) (hl : ds.length < sizeLine) (hΦ : Φ (.nx (ρ.set i (.ox (putC cs p (.lst (ds ++ [d]))) d0))))
    (hpe : ∀ {to : TE} {ta : TA}, PE X a to → PA X [e] ta → PS X (.Expr (.Call (.Attribute a "append" p2) [e] [] p3) pos) (tDrop (tBM X.K "list" rAppend to ta))) (hs : starEach [e] X.env = (false, eval e X.env) :: starEach [] X.env := by rfl) :
    WS X (.Expr (.Call (.Attribute a "append" p2) [e] [] p3) pos) ρ Φ := fun B0 B σ H0 H Dn j k => by
  refine ⟨_, hpe pe_star pa_star, ha B0 B σ H0 H _ j fun v G0 G g r => ?_⟩
  cases (show v = .ref p from r)
  obtain ⟨o, h1, h2, h3, vs, rfl, r⟩ := (j.grow g).cell hi hm
  refine ⟨Or.inl ⟨rfl, _, Or.inl (Or.inl h1)⟩, ad_cons (X := X) he ad_nil hs B0 B σ G0 G _ (j.grow g) fun ws L0 L g2 rr => ?_⟩
  obtain ⟨y, rfl, ry⟩ := rr.one'
  have j1 := (j.grow g).grow g2
  obtain ⟨o', h1', h2', h3', vs', rfl, r'⟩ := j1.cell hi hm
  exact ⟨p, vs', y, rfl, rfl, h1', by rw [← DRs.length r']; exact hl, k _ hΦ _ L0 _ (j1.put hi hm ⟨_, rfl, DRs.app r' (DRs.one ry)⟩)⟩
end
theorem putK_zip {κ : Type} [DecidableEq κ] {ks : List κ} {vs : List V} {k : κ} {v : V} (hl : ks.length = vs.length) (h : k ∉ ks) : putK (ks.zip vs) k v = (ks ++ [k]).zip (vs ++ [v]) := by
  unfold putK
  have e : ((ks.zip vs).any fun kv => decide (kv.1 = k)) = false := by
    rw [List.any_eq_false]
    rintro ⟨k', v'⟩ hm
    have := (List.of_mem_zip hm).1
    simp only [decide_eq_true_eq]
    rintro rfl
    exact h this
  rw [e, if_neg (by simp), List.zip_append hl]; rfl
end DL
namespace DL
abbrev Seg (α : Type) := Int × Int × α
section
variable {α : Type} [DecidableEq α] {e : α}
def segVal (e : α) : List (Seg α) → Int → α
  | [], _ => e
  | s :: t, y => if s.1 ≤ y ∧ y < s.2.1 then s.2.2 else segVal e t y
/-- one behind the other, not to be made one -/
def link (s s' : Seg α) : Prop := s.2.1 ≤ s'.1 ∧ (s.2.1 = s'.1 → s.2.2 ≠ s'.2.2)
def okS (e : α) (s : Seg α) : Prop := s.1 < s.2.1 ∧ s.2.2 ≠ e
inductive Can (e : α) : List (Seg α) → Prop where
  | nil : Can e []
  | one {s} (h : okS e s) : Can e [s]
  | cons {s s' t} (h : okS e s) (hl : link s s') (ht : Can e (s' :: t)) : Can e (s :: s' :: t)
theorem Can.head {s : Seg α} {t : List (Seg α)} (h : Can e (s :: t)) : okS e s := by
  cases h with
  | one h => exact h
  | cons h _ _ => exact h
theorem Can.tail {s : Seg α} {t : List (Seg α)} (h : Can e (s :: t)) : Can e t := by
  cases h with
  | one h => exact .nil
  | cons _ _ h => exact h
theorem Can.ok {l : List (Seg α)} (h : Can e l) : ∀ p ∈ l, okS e p := by
  induction l with
  | nil => intro p hp; simp at hp
  | cons s t ih =>
    intro p hp
    rcases List.mem_cons.mp hp with rfl | hp
    · exact h.head
    · exact ih h.tail p hp
end
end DL
namespace DL
abbrev Asc (es : List Int) : Prop := es.Pairwise (· < ·)
def par (es : List Int) : Bool := decide (es.length % 2 = 1)
structure EOk (es : List Int) : Prop where
  asc : Asc es
  even : es.length % 2 = 0
theorem EOk.par {es : List Int} (h : EOk es) : par es = false := by
  unfold DL.par
  rw [decide_eq_false]
  have := h.even
  omega
theorem eok_nil : EOk [] := ⟨List.Pairwise.nil, rfl⟩
end DL
namespace DL
open PySem PySem.Spec PyProof.Rows L2
def LeQ (a b : Sq) : Prop := a.1 < b.1 ∨ (a.1 = b.1 ∧ a.2 ≤ b.2)
instance (a b : Sq) : Decidable (LeQ a b) := by unfold LeQ; infer_instance
inductive All2 {α β : Type} (r : α → β → Prop) : List α → List β → Prop where
  | nil : All2 r [] []
  | cons {a b as bs} (h : r a b) (t : All2 r as bs) : All2 r (a :: as) (b :: bs)
theorem All2.len {α β : Type} {r : α → β → Prop} {as : List α} {bs : List β} (h : All2 r as bs) : as.length = bs.length := by
  induction h with
  | nil => rfl
  | cons _ _ ih => simp [ih]
theorem All2.imp {α β : Type} {r q : α → β → Prop} {as : List α} {bs : List β} (h : All2 r as bs) (i : ∀ a b, r a b → q a b) : All2 q as bs := by
  induction h with
  | nil => exact .nil
  | cons h _ ih => exact .cons (i _ _ h) ih
theorem All2.get {α β : Type} {r : α → β → Prop} : ∀ {as : List α} {bs : List β} {j : Nat} {a : α} {b : β}, All2 r as bs → as[j]? = some a → bs[j]? = some b → r a b
  | _, _, j, _, _, .nil, h, _ => by simp at h
  | _, _, 0, _, _, .cons h t, h1, h2 => by simp at h1 h2; subst h1 h2; exact h
  | _, _, j + 1, _, _, .cons h t, h1, h2 => All2.get (j := j) t (by simpa using h1) (by simpa using h2)
end DL
namespace DL
abbrev Row := Seg (List Int)
structure ROk (R : List Row) : Prop where
  can : Can [] R
  ed : ∀ p ∈ R, EOk p.2.2
def rowAt (R : List Row) (y : Int) : List Int := segVal [] R y
theorem segVal_mem {α : Type} {e : α} : ∀ {l : List (Seg α)} {y : Int}, segVal e l y = e ∨ ∃ p ∈ l, p.1 ≤ y ∧ y < p.2.1 ∧ p.2.2 = segVal e l y
  | [], y => .inl rfl
  | s :: t, y => by
    unfold segVal
    by_cases h : s.1 ≤ y ∧ y < s.2.1
    · rw [if_pos h]; exact .inr ⟨s, List.mem_cons_self, h.1, h.2, rfl⟩
    · rw [if_neg h]
      rcases segVal_mem (e := e) (l := t) (y := y) with h | ⟨p, h1, h2⟩
      · exact .inl h
      · exact .inr ⟨p, List.mem_cons_of_mem _ h1, h2⟩
theorem ROk.row {R : List Row} (h : ROk R) (y : Int) : EOk (rowAt R y) := by
  rcases segVal_mem (e := ([] : List Int)) (l := R) (y := y) with e | ⟨p, h1, _, _, e⟩
  · unfold rowAt; rw [e]; exact eok_nil
  · unfold rowAt; rw [← e]; exact h.ed p h1
end DL
namespace DL
open PySem PySem.Spec L2
theorem atI_last {α : Type} {xs : List α} {d : α} (h : xs.getLast? = some d) : atI xs (-1) = some d := by
  have hne : xs ≠ [] := by rintro rfl; simp at h
  have hl : 0 < xs.length := List.length_pos_iff.mpr hne
  unfold atI ixN
  rw [if_neg (by omega), if_pos (by omega)]
  show xs[((-1 : Int) + (xs.length : Int)).toNat]? = some d
  rw [List.getLast?_eq_getElem?] at h
  rw [← h]
  congr 1
  omega
end DL
namespace DL
open PySem PySem.Spec PyProof.Rows L2
/-- a set just made -/
abbrev nSet (w : World) : Obj := { cls := .type "set", dict := none, data := .set #[] 0 (.fresh 0 0 (!w.params.followText "set-order")) }
end DL
namespace DL
open PySem PySem.Spec PyProof.Rows L2
open PySem.W (EachIs AllAlike Sortable KeepsBut SortsAt KeyedOut dataLe dataKind alike)
section
variable {X : Cx} {pins : List (Addr × Obj)} {σ : L2.St} {H : Hp} {s : Shared} {β : Type} {bs : List β} {enc kd : β → D} {R : List D → D → Prop} {k : Nat} {f : Addr}
noncomputable def srtK (kd : β → D) (bs : List β) : List β := bs.mergeSort (dataLe false fun b => (kd b).py)
theorem srtK_perm (kd : β → D) (bs : List β) : (srtK kd bs).Perm bs := List.mergeSort_perm _ _
variable {ρ : En}
/-- a list or a tuple -/
inductive SeqD : D → List D → Prop where
  | lst (ds) : SeqD (.lst ds) ds
  | tup (ds) : SeqD (.tup ds) ds
end
end DL
namespace DL
open PySem PySem.Spec PyProof.Rows L2
section
variable {X : Cx} {ρ : En} {a b : Expr} {pos : Pos}
theorem op_catL : OpR X (binaryOp .Add) (fun x y H Q => ∃ (l m : Addr) (xs zs : List V), x = .ref l ∧ y = .ref m ∧ SqL X.K H l xs ∧ SqL X.K H m zs ∧ xs.length + zs.length ≤ sizeLine ∧ ∀ p, H p = none → Q (.ref p) (upd H p (.lst (xs ++ zs)))) := by
  intro pins s σ H x y v u Q I rx ry h
  obtain ⟨l, m, xs, zs, rfl, rfl, h1, h2, hz, q⟩ := h
  cases rx
  cases ry
  obtain ⟨its, r1, ⟨⟨c1, d1, t1, s1⟩, n1, o1, e1, _, f1⟩, _⟩ := I.list h1
  obtain ⟨jts, r2, ⟨⟨c2, d2, t2, s2⟩, n2, o2, e2, _, f2⟩, _⟩ := I.list h2
  simp only at e1 f1 e2 f2
  subst e1 f1 e2 f2
  have hl : its.length + jts.length ≤ sizeLine := by rw [← r1.length, ← r2.length]; exact hz
  refine concat_meets ⟨_, o1, rfl⟩ ⟨_, o2, rfl⟩ noFill_list_add seq_list_add PySem.F.slot_list_add PySem.F.entry_list_add (PySem.F.args_list_add_2 _ _) (list_addW l m its.toArray jts.toArray n1 n2 d1 d2 s1 s2 (by simpa using hl)) ⟨o1, o2, ?_⟩
  have ea : its.toArray ++ jts.toArray = (its ++ jts).toArray := by simp
  rw [ea]
  exact ⟨.ref _, _, I.lnew (t' := s.toks) (r1.append r2) (by rw [List.length_append]; omega), rfl, q _ I.fresh⟩
/-- a + b, lists -/
theorem eo_cat {ds es : List D} (ha : ED X ρ a (.lst ds)) (hb : ED X ρ b (.lst es)) (hl : ds.length + es.length ≤ sizeLine) : EO X ρ (.BinOp a .Add b pos) (.lst (ds ++ es)) := fun B0 B σ H0 H Q j k =>
  RE.of (pe_op op_catL pe_star pe_star) (ha B0 B σ H0 H _ j fun x G0 G g1 r1 => hb B0 B σ G0 G _ (j.grow g1) fun y L0 L g2 r2 => by
    obtain ⟨p, vs, rfl, h1, h2⟩ := DR.mono g2.s0 _ _ r1
    obtain ⟨q, ws, rfl, h3, h4⟩ := r2
    exact ⟨p, q, vs, ws, rfl, rfl, g2.sh.seq h1, g2.sh.seq h3, by rw [← DRs.length h2, ← DRs.length h4]; exact hl, fun z hz => k z _ L0 _ ((g1.trans g2).trans (JH.own g2.sh hz)) upd_same (g2.sh.free hz) ((g1.trans g2).sB.free hz) ⟨_, rfl, DRs.app h2 h4⟩⟩)
end
end DL
namespace DL
open PySem PySem.Spec PyProof.Rows L2
section
variable {X : Cx} {ρ : En} {pos : Pos} {a b e : Expr}
theorem op_notInSq (hu : X.A.units + 1 < cLine) : OpR X (compareOp .NotIn) (fun x y H Q => ∃ (a b : Addr) (kvs : List (List Key × V)) (k : List Key), x = .ref b ∧ y = .ref a ∧ Rd H a (.dT kvs) ∧ SqT X.K H b (k.map kV) ∧ Q (.bl (!(valV kvs k).isSome)) H) := by
  rintro pins s σ H x y v u Q I rx ry ⟨a, b, kvs, k, rfl, rfl, h1, h2, q⟩
  cases (show v = Value.ref b from rx); cases (show u = Value.ref a from ry)
  obtain ⟨z, hd, xs, rel, dd⟩ := dt_rd I.hok h1
  obtain ⟨its, r, ⟨o, e, c, n, dat⟩, _⟩ := I.tuple h2
  refine wpAny_notIn_heap (tupleKind_room_in1 hu) (k := k) ⟨o, its.toArray, n, e, c, dat, by simpa using items_are r⟩ hd dd ?_
  have qq := (rel.val k).isSome_eq
  rw [Option.isSome_map] at qq
  rw [← qq]
  exact ⟨.bl (!(valV kvs k).isSome), H, I.tok _, rfl, q⟩
theorem bx_inj {l m : List Bx} : l.map Bx.e = m.map Bx.e ↔ l = m := List.map_inj_right (f := Bx.e) (fun a b e => Bx.inj e)
theorem c2_eqBx {l m : List Bx} (hu : X.A.units + 64 < cLine) : C2 X .Eq (.tup (l.map Bx.e)) (.tup (m.map Bx.e)) (.bl (decide (l = m))) :=
  c2_eqC (n := 2) (m := 2) hu (.tup Bx.cms) (.tup Bx.cms) (by simp [bx_inj])
theorem c2_neBx {l m : List Bx} (hu : X.A.units + 64 < cLine) : C2 X .NotEq (.tup (l.map Bx.e)) (.tup (m.map Bx.e)) (.bl (!decide (l = m))) :=
  c2_neC (n := 2) (m := 2) hu (.tup Bx.cms) (.tup Bx.cms) (by simp [bx_inj])
end
end DL
namespace DL
open PySem PySem.Spec PyProof.Rows L2
/-- what the top says of a class: cn its name, fs its fields -/
structure Kl (K : PySem.W.Frag) (mg : Str → Option Value) (cn : Str) (fs : List Str) : Prop where
  ex : ∃ C, PySem.W.nsIn K mainGlobals cn = some (some (.ref C)) ∧ mg cn = some (.ref C) ∧ C8.InsC K C ∧ PySem.W.keepIn K (.ref C) = true ∧ ∀ f ∈ fs, NoAttr K C f
theorem kit_self {K : PySem.W.Frag} {C : Addr} : PySem.W.kitOne K (.ref C) (.ref C) = some true := by
  unfold PySem.W.kitOne
  exact if_pos (by first | rfl | simp | decide)
theorem zip_at {f : Str} : ∀ {ns : List Str} {vs : List V} {i : Nat} {v : V}, ns[i]? = some f → (ns.take i).contains f = false → vs[i]? = some v → (ns.zip vs).lookup f = some v
  | n :: ns, w :: vs, 0, v, h1, _, h3 => by
    simp only [List.getElem?_cons_zero, Option.some.injEq] at h1 h3
    subst h1; subst h3
    simp [List.lookup_cons]
  | n :: ns, w :: vs, i + 1, v, h1, h2, h3 => by
    simp only [List.getElem?_cons_succ] at h1 h3
    rw [List.take_succ_cons, List.contains_cons, Bool.or_eq_false_iff] at h2
    rw [List.zip_cons_cons, List.lookup_cons]
    rw [h2.1]
    exact zip_at h1 h2.2 h3
  | [], vs, i, v, h1, _, _ => by simp at h1
  | n :: ns, [], i, v, _, _, h3 => by simp at h3
theorem zip_none {m : Str} : ∀ {ns : List Str} {vs : List V}, ns.contains m = false → (ns.zip vs).lookup m = none
  | [], vs, _ => by simp
  | n :: ns, [], _ => by simp
  | n :: ns, v :: vs, h => by
    rw [List.contains_cons, Bool.or_eq_false_iff] at h
    rw [List.zip_cons_cons, List.lookup_cons, h.1]
    exact zip_none h.2
theorem putF_new {f : Str} {y : V} : ∀ {ns : List Str} {vs : List V}, ns.contains f = false → ns.length = vs.length → putF f y (ns.zip vs) = (ns ++ [f]).zip (vs ++ [y])
  | [], [], _, _ => rfl
  | n :: ns, v :: vs, h, hl => by
    rw [List.contains_cons, Bool.or_eq_false_iff] at h
    have hne : ¬ (n = f) := fun e => by rw [e] at h; simp at h
    show (if n = f then _ else (n, v) :: putF f y (ns.zip vs)) = _
    rw [if_neg hne, putF_new h.2 (by simpa using hl)]
    rfl
  | [], v :: vs, _, hl => by simp at hl
  | n :: ns, [], _, hl => by simp at hl
section
variable {X : Cx} {ρ : En} {e : Expr} {pos : Pos} {cn f : Str} {ns fs : List Str} {ds : List D} {d : D}
/-- e.f, e an instance that is shared -/
theorem ed_fld (i : Nat) (kl : Kl X.K X.mg cn fs) (he : ED X ρ e (.obj cn ns ds)) (hn : ns[i]? = some f := by rfl) (hd : ds[i]? = some d := by rfl) (hu : (ns.take i).contains f = false := by decide +kernel) (hf : f ∈ fs := by decide +kernel)
    (hb : attributeBase e f X.env (eval e X.env) = eval e X.env := by rfl) : ED X ρ (.Attribute e f pos) d := fun B0 B σ H0 H Q j k => by
  refine RE.of (pe_fld pe_star hb) (he B0 B σ H0 H _ j fun v G0 G g r => ?_)
  obtain ⟨a, C, dx, vs, rfl, hC, ha, hlen, hvs⟩ := r
  obtain ⟨C', hC', hm, hc, hk, hna⟩ := kl.ex
  rw [hC] at hC'; cases hC'
  obtain ⟨v, hv, rv⟩ := DRs.get hvs hd
  exact ⟨a, C, dx, _, v, rfl, g.sh _ _ ha, hc.cl, hna f hf, zip_at hn hu hv, k v G0 G g rv⟩
/-- self.f = e, a new field -/
theorem ws_setF (s : Nat) {a : Addr} {x : Str} {p pos' : Pos} {value : Expr} {Φ : Out → Prop} (kl : Kl X.K X.mg cn fs) (hρ : ρ[s]? = some (.ox [(a, .ins cn ns ds)] (.ad a))) (hv : ED X ρ value d) (hΦ : Φ (.nx (ρ.set s (.ox [(a, .ins cn (ns ++ [f]) (ds ++ [d]))] (.ad a)))))
    (hnew : ns.contains f = false := by decide +kernel) (hf : f ∈ fs := by decide +kernel) (hlt : ns.length < 1000 := by decide)
    (hN : X.N[s]? = some x := by rfl) (hvis : Vis X.env.scope x := by first | exact Or.inl rfl | exact Or.inr (Or.inl rfl) | exact Or.inr (Or.inr rfl)) (hdb : (x == ("__debug__" : Str)) = false := by decide) (hcd : (x == ("__classdict__" : Str)) = false := by decide)
    (hs : swapsWith value (some (.Attribute (.Name x p) f pos')) pos.line X.env = pure false := by rfl) : WS X (.Assign [.Attribute (.Name x p) f pos'] value pos) ρ Φ := fun B0 B σ H0 H Dn j k => by
  refine ⟨_, ps_fld (pe_var hN hvis hdb hcd) pe_star hs, hv B0 B σ H0 H _ j fun v G0 G g r => ?_⟩
  have j1 := j.grow g
  obtain ⟨ov, e1, ⟨v1, rfl, rv⟩, hcs, _⟩ := j1.get hρ
  cases (show v1 = .ref a from rv)
  obtain ⟨o, h1, h2, h3, h4⟩ := (hcs _ (List.mem_singleton_self _)).ex
  obtain ⟨vs, C, dx, rfl, hC, hlen, hvs⟩ := h4
  obtain ⟨C', hC', hm, hc, hk, hna⟩ := kl.ex
  rw [hC] at hC'; cases hC'
  have hl : (ns.zip vs).length < 1000 := by rw [List.length_zip]; omega
  refine ⟨_, e1, a, C, dx, _, rfl, h1, hc.cl, hna f hf, hl, ?_⟩
  rw [putF_new hnew hlen]
  have j2 := j1.put (c' := .ins cn (ns ++ [f]) (ds ++ [d])) (o := .ins C dx ((ns ++ [f]).zip (vs ++ [v]))) hρ (List.mem_singleton_self _) ⟨vs ++ [v], C, dx, rfl, hC, by simp [hlen], DRs.app hvs (DRs.one r)⟩
  have e : putC [(a, OC.ins cn ns ds)] a (.ins cn (ns ++ [f]) (ds ++ [d])) = [(a, .ins cn (ns ++ [f]) (ds ++ [d]))] := by simp [putC]
  rw [e] at j2
  exact k _ hΦ _ _ _ j2
end
/-- a heap without a -/
def er (H : Hp) (a : Addr) : Hp := fun b => if b = a then none else H b
theorem er_same {H : Hp} {a : Addr} : er H a a = none := if_pos rfl
theorem er_ne {H : Hp} {a b : Addr} (h : b ≠ a) : er H a b = H b := if_neg h
theorem er_sub {H : Hp} {a : Addr} : Same (er H a) H := fun b u e => by
  by_cases h : b = a
  · subst h; rw [er_same] at e; cases e
  · rwa [er_ne h] at e
/-- __init__'s promise: R of the arguments, the fields' names, the fields -/
def spI (K : PySem.W.Frag) (cn : Str) (R : List D → List Str → List D → Prop) : Sp := fun vs H Q _ => ∃ H0 a C dx ds ns es ws, vs = .ref a :: ws ∧ PySem.W.nsIn K mainGlobals cn = some (some (.ref C)) ∧ Same H0 H ∧ H a = some (.ins C dx []) ∧ H0 a = none ∧ DRs K H0 ds ws ∧ R ds ns es ∧
  ∀ H0' H' o, JH H0 (er H a) H0' H' → H' a = some o → H0' a = none → OCR K H0' (.ins cn ns es) o → Q .non H'
def enI (N : List Str) (a : Addr) (cn : Str) (ds : List D) : En := .ox [(a, .ins cn [] [])] (.ad a) :: (ds.map Sl.sh ++ List.replicate (N.length - (ds.length + 1)) Sl.no)
section
variable {P : Program} {w : World} {K : PySem.W.Frag} {mg : Str → Option Value} {base : Heap}
theorem j_startI {N : List Str} {H0 H : Hp} {a C dx : Addr} {cn : Str} {ds : List D} {vs : List V} (s : Same H0 H) (hC : PySem.W.nsIn K mainGlobals cn = some (some (.ref C))) (ha : H a = some (.ins C dx [])) (h0 : H0 a = none) (r : DRs K H0 ds vs) (hl : ds.length + 1 ≤ N.length) : J K H0 (er H a) (L2.start N (.ref a :: vs)) H0 H (enI N a cn ds) := by
  have hlen := DRs.length r
  have kind : ∀ (i : Nat) s, (enI N a cn ds)[i]? = some s → i = 0 ∨ s = .no ∨ ∃ d, s = .sh d := fun i s h => by
    cases i with
    | zero => exact .inl rfl
    | succ i =>
      refine .inr ?_
      unfold enI at h
      rw [List.getElem?_cons_succ] at h
      by_cases hi : i < ds.length
      · rw [List.getElem?_append_left (by simpa using hi), List.getElem?_map, show ds[i]? = some ds[i] by simp [hi]] at h
        cases h; exact .inr ⟨_, rfl⟩
      · rw [List.getElem?_append_right (by simp; omega), List.getElem?_replicate] at h
        split at h
        · cases h; exact .inl rfl
        · cases h
  refine ⟨⟨Same.refl _, s, er_sub, fun b o e _ h => h⟩, by simp [L2.start, enI, hlen], fun i sl ov h1 h2 => ?_, fun i j s1 s2 o1 o2 b h1 h2 _ _ w1 w2 => ?_⟩
  · cases i with
    | zero =>
      unfold enI at h1
      unfold L2.start at h2
      simp only [List.getElem?_cons_zero, Option.some.injEq, List.map_cons, List.cons_append] at h1 h2
      subst h1; subst h2
      refine ⟨⟨_, rfl, rfl⟩, fun p hp => ?_, by simp⟩
      rw [List.mem_singleton] at hp; subst hp
      exact ⟨_, ha, h0, er_same, [], C, dx, rfl, hC, rfl, rfl⟩
    | succ i =>
      unfold enI at h1
      unfold L2.start at h2
      simp only [List.getElem?_cons_succ, List.map_cons, List.cons_append] at h1 h2
      by_cases hi : i < ds.length
      · rw [List.getElem?_append_left (by simpa using hi), List.getElem?_map] at h1
        rw [List.getElem?_append_left (by simp; omega), List.getElem?_map] at h2
        obtain ⟨v, e1, e2⟩ := DRs.get r (show ds[i]? = some ds[i] by simp [hi])
        rw [show ds[i]? = some ds[i] by simp [hi]] at h1
        rw [e1] at h2
        cases h1; cases h2
        exact ⟨v, rfl, e2⟩
      · rw [List.getElem?_append_right (by simp; omega), List.getElem?_replicate] at h1
        split at h1
        · cases h1; trivial
        · cases h1
  · rcases kind i s1 h1 with e1 | e1
    · rcases kind j s2 h2 with e2 | e2
      · rw [e1, e2]
      · exact absurd w2 (Owns.none e2 b)
    · exact absurd w1 (Owns.none e1 b)
theorem fn_okI {x qual : Str} {st : Stmt} {f : Addr} {fd : FuncData} {N ps : List Str} {k : Nat} {cn : Str} {R : List D → List Str → List D → Prop} (F : Fun K x qual st f fd) (S : FnScope N ps (defScope st)) (hR : ∀ ds ns es, R ds ns es → ds.length + 1 = ps.length)
    (h : ∀ a ds ns es, R ds ns es → ∀ (cdv : Value) (A : Around) (outer : List Env) (s : Shared) (H : Hp) (E : XK), Room k (A.deeper (envOfC qual (defScope st) s.heap.objs.size f cdv)) →
      WSs (bx P w K mg base N qual st f cdv A outer s H E) (defBody st) (enI N a cn ds) (fun o => ∃ ρ es', o = .nx ρ ∧ ρ[0]? = some (.ox [(a, .ins cn ns es')] (.ad a)) ∧ ∀ H vs, DRs K H es' vs → DRs K H es vs)) : FnOk P w K mg base CX0 (k + 1) f fd ps (spI K cn R) := by
  refine F.ok S (fun vs H Q E hs => ?_) fun cdv A outer s H vs Q E hr hs => ?_
  · obtain ⟨H0, a, C, dx, ds, ns, es, ws, rfl, hC, s0, ha, h0, r, q, _⟩ := hs
    rw [List.length_cons, ← DRs.length r]; exact hR ds ns es q
  · obtain ⟨H0, a, C, dx, ds, ns, es, ws, rfl, hC, s0, ha, h0, r, q, kk⟩ := hs
    have hN : ds.length + 1 ≤ N.length := by
      have h1 := hR ds ns es q
      have h2 := congrArg List.length S.pre
      rw [List.length_take] at h2
      omega
    obtain ⟨t, h1, h2⟩ := h a ds ns es q cdv A outer s H E hr H0 (er H a) (L2.start N (.ref a :: ws)) H0 H (j_startI s0 hC ha h0 r hN) (Dn := { nx := fun _ H' => Q .non H', rt := Q }) fun o ho => by
      obtain ⟨ρ, es', rfl, hρ, hw⟩ := ho
      intro σ G0 G j
      obtain ⟨ov, e1, ⟨v, rfl, rv⟩, hcs, _⟩ := j.get hρ
      obtain ⟨o, g1, g2, g3, g4⟩ := (hcs _ (List.mem_singleton_self _)).ex
      obtain ⟨vs, C', dx', e1, e2, e3, e4⟩ := g4
      exact kk G0 G o j.hp g1 g2 ⟨vs, C', dx', e1, e2, e3, hw _ _ e4⟩
    exact ⟨t, h1, h2⟩
/-- a class that is made by calling it -/
structure FnI (P : Program) (w : World) (K : PySem.W.Frag) (mg : Str → Option Value) (base : Heap) (cn : Str) (k : Nat) (R : List D → List Str → List D → Prop) : Prop where
  ex : ∃ C f fd ps, PySem.W.nsIn K mainGlobals cn = some (some (.ref C)) ∧ mg cn = some (.ref C) ∧ Mk K C f ∧ FnOk P w K mg base CX0 k f fd ps (spI K cn R) ∧ Binds K fd ps []
theorem eo_make {X : Cx} {ρ : En} {e : Expr} {pos : Pos} {cn : Str} {k : Nat} {R : List D → List Str → List D → Prop} {es : List Expr} {ds zs : List D} {ns : List Str} {p : Pos} (G : FnI X.prog X.w X.K X.mg X.base cn k R) (hr : Room (k + 1) X.A) (hg : Gl X cn) (ha : AD X ρ (e :: es) ds) (hR : R ds ns zs)
    (hdb : (cn == ("__debug__" : Str)) = false := by decide +kernel) (he : starEach (e :: es) X.env = (false, eval e X.env) :: starEach es X.env := by rfl) (hpl : (backTo pos (starEach es X.env)).any (·.1) = false := by rfl) :
    EO X ρ (.Call (.Name cn p) (e :: es) [] pos) (.ins cn ns zs) := fun B0 B σ H0 H Q j kk => by
  obtain ⟨C, f, fd, ps, hC, hm, M, F, hb⟩ := G.ex
  refine RE.of (pe_make (E := E0) M F hr hg hm hb .nil pass0 pa_star hdb he hpl) (ha B0 B σ H0 H _ j fun vs G0 G g r => ?_)
  intro x dx hx hdx hne
  rw [List.append_nil]
  have g0x : G0 x = none := g.sh.free hx
  have g0d : G0 dx = none := g.sh.free hdx
  have s1 : Same G0 (upd (upd G dx (.own x)) x (.ins C dx [])) := fun b u q => by
    rw [upd_ne (ne_of_none q g0x), upd_ne (ne_of_none q g0d)]
    exact g.sh b u q
  have sE : ∀ b u, G b = some u → er (upd (upd G dx (.own x)) x (.ins C dx [])) x b = some u := fun b u q => by
    have n1 := ne_of_none q hx
    rw [er_ne n1, upd_ne n1, upd_ne (ne_of_none q hdx)]
    exact q
  refine ⟨G0, x, C, dx, ds, ns, zs, vs, rfl, hC, s1, upd_same, g0x, r, hR, fun L0 L o gg e1 e2 e3 => ⟨rfl, ?_⟩⟩
  exact kk x o L0 L (g.trans ⟨gg.s0, gg.sh, fun b u q => gg.sB b u (sE b u q), fun b u q nt q' => gg.fr b u (sE b u q) nt q'⟩) e1 e2 (g.sB.free hx) e3
structure FnM (P : Program) (w : World) (K : PySem.W.Frag) (mg : Str → Option Value) (base : Heap) (cn m : Str) (k : Nat) (R : List D → D → Prop) : Prop where
  ex : ∃ C f fd ps, PySem.W.nsIn K mainGlobals cn = some (some (.ref C)) ∧ Cls K C ∧ Meth K C m f ∧ FnOk P w K mg base CX0 k f fd ps (spR K R) ∧ Binds K fd ps []
theorem ed_meth {X : Cx} {ρ : En} {o e : Expr} {pos apos : Pos} {cn m : Str} {k : Nat} {R : List D → D → Prop} {es : List Expr} {ds fds : List D} {ns : List Str} {d : D} {pl : Sem Bool} (G : FnM X.prog X.w X.K X.mg X.base cn m k R) (hr : Room k X.A) (ho : ED X ρ o (.obj cn ns fds)) (ha : AD X ρ (e :: es) ds) (hR : R (.obj cn ns fds :: ds) d)
    (hm : ns.contains m = false := by decide +kernel)
    (hst : starEach (e :: es) X.env = (false, eval e X.env) :: starEach es X.env := by rfl) (hpl : (backTo pos (starEach es X.env)).any (·.1) = false := by rfl)
    (ht : eval (.Call (.Attribute o m apos) (e :: es) [] pos) X.env = (do
      let ov ← eval o X.env
      standAt apos.atName
      let (f, first) ← holding [ov] (getMethod ov m pl)
      callWith pos f first (backTo pos (starEach (e :: es) X.env)) (backToKw pos (keywordEach [] X.env))) := by rfl) :
    ED X ρ (.Call (.Attribute o m apos) (e :: es) [] pos) d := fun B0 B σ H0 H Q j kk => by
  obtain ⟨C, f, fd, ps, hC, hc, hmt, F, hb⟩ := G.ex
  refine RE.of (pe_meth (E := E0) pe_star hc hmt F hr hb .nil pass0 pa_star hst hpl ht) (ho B0 B σ H0 H _ j fun v G0 G g r => ?_)
  obtain ⟨a, C', dx, vs, rfl, hC', hA, hlen, hvs⟩ := id r
  rw [hC] at hC'; cases hC'
  refine ⟨a, dx, _, rfl, g.sh _ _ hA, zip_none hm, ha B0 B σ G0 G _ (j.grow g) fun ws L0 L g2 r2 => ?_⟩
  rw [List.append_nil]
  exact ⟨L0, .obj cn ns fds :: ds, d, g2.sh, ⟨_, _, rfl, DR.mono g2.s0 _ _ r, r2⟩, hR, fun v M0 M g3 r3 => kk v M0 M ((g.trans g2).trans g3) r3⟩
end
end DL
namespace DL
open PySem PySem.Spec PyProof.Rows L2
local instance (priority := 2000) keyBEq : BEq Key := instBEqOfDecidableEq
/-- the keys, each once -/
def stepK (σ : List Key) (v : Key) : List Key := if v ∈ σ then σ else σ ++ [v]
def ddK (ks : List Key) : List Key := ks.foldl stepK []
theorem ddK_snoc (ks : List Key) (v : Key) : ddK (ks ++ [v]) = stepK (ddK ks) v := by
  unfold ddK; rw [List.foldl_append]; rfl
theorem snoc_ind {α : Type} {P : List α → Prop} (h0 : P []) (hs : ∀ l x, P l → P (l ++ [x])) : ∀ l, P l := fun l => by
  have : ∀ n, ∀ l : List α, l.length = n → P l := fun n => by
    induction n with
    | zero => intro l hl; rw [List.length_eq_zero_iff.mp hl]; exact h0
    | succ n ih =>
      intro l hl
      have hne : l ≠ [] := fun e => by rw [e] at hl; cases hl
      rw [← List.dropLast_concat_getLast hne]
      exact hs _ _ (ih _ (by rw [List.length_dropLast, hl]; rfl))
  exact this _ l rfl
theorem mem_ddK (k : Key) : ∀ ks : List Key, k ∈ ddK ks ↔ k ∈ ks := by
  refine snoc_ind (by simp [ddK]) fun ks v ih => ?_
  rw [ddK_snoc, List.mem_append]
  unfold stepK
  split
  · rename_i h
    rw [ih]
    constructor
    · exact .inl
    · rintro (h1 | h1)
      · exact h1
      · rw [List.mem_singleton] at h1; subst h1; exact ih.mp h
  · rw [List.mem_append, ih]
theorem ddK_len : ∀ ks : List Key, (ddK ks).length ≤ ks.length := by
  refine snoc_ind (by simp [ddK]) fun ks v ih => ?_
  rw [ddK_snoc, List.length_append]
  unfold stepK
  split
  · omega
  · rw [List.length_append]; simp only [List.length_cons, List.length_nil]; omega
theorem ddK_nodup : ∀ ks : List Key, ks.Nodup → (ddK ks).length = ks.length := by
  refine snoc_ind (by simp [ddK]) fun ks v ih h => ?_
  rw [List.nodup_append] at h
  rw [ddK_snoc, List.length_append]
  unfold stepK
  rw [if_neg, List.length_append, ih h.1]
  intro hv
  exact h.2.2 v ((mem_ddK v ks).mp hv) v (by simp) rfl
theorem ddK_lt : ∀ ks : List Key, ¬ ks.Nodup → (ddK ks).length < ks.length := by
  refine snoc_ind (fun h => absurd List.nodup_nil h) fun ks v ih h => ?_
  rw [ddK_snoc, List.length_append]
  unfold stepK
  have hl := ddK_len ks
  split
  · simp only [List.length_cons, List.length_nil]; omega
  · rename_i hv
    rw [List.length_append]
    have hn : ¬ ks.Nodup := fun hn => h (List.nodup_append.mpr ⟨hn, by simp, fun a ha b hb e => by
      rw [List.mem_singleton] at hb
      subst hb; subst e
      exact hv ((mem_ddK _ _).mpr ha)⟩)
    have := ih hn
    simp only [List.length_cons, List.length_nil]; omega
section
variable {P : Program} {w : World} {A : Around} {E : Value → Shared → Prop} {s : Shared}
theorem set_update_keys {I : Addr} {fp wr : List Addr} {G : Array GenState → Array GenState → Prop} {n : Nat} {Pv : Nat → Value → Prop} {St : Nat → Shared → Prop} {R : Result → Shared → Prop}
    (W : WalksS P w A.in1 I fp wr G n Pv St) (S : Addr) (hSf : S ∉ fp) (ks : List Key) (hn : n = ks.length) (hb : ks.length + 1 < scanBound) (hval : ∀ i v, Pv i v → ∃ k, ks[i]? = some k ∧ (mixKind P w).is k v = true ∧ v.scannable = true) :
    ∀ (k i : Nat) (s : Shared), n - i = k → i ≤ n → St i s → s.heap.SetOf (mixKind P w) S (fun j => decide (j ∈ ks.take i)) (ddK (ks.take i)).length →
      (∀ s', Moved (S :: wr) G s s' → s'.heap.SetOf (mixKind P w) S (fun j => decide (j ∈ ks)) (ddK ks).length → R (.ok (.ret .none)) s') →
      codeAny (model P w) A (.builtin "set.update.loop" ⟨[.ref S, .ref I], []⟩) R s := by
  have hSw : S ∉ wr := fun h => hSf (W.sub _ h)
  have hsub : ∀ b ∈ wr, b ∈ S :: wr := fun b hb => List.mem_cons_of_mem _ hb
  intro k
  induction k with
  | zero =>
    intro i s hk' hi hst hS hR
    have hin : i = n := by omega
    subst hin
    refine codeAny_builtin F.entry_set_update_loop ?_
    rw [Around.under_plainId F.plain_set_update_loop _]
    show wpAny _ A.in1 (pyNext (.ref I) >>= _) _ _ s
    refine wpAny_bind (W.done s _ _ hst fun s' hm => ?_)
    show wpAny _ A.in1 (ret Value.none) _ _ s'
    have e : ks.take i = ks := List.take_of_length_le (by omega)
    rw [e] at hS
    exact wpAny_pure (hR s' (hm.mono hsub) (setOf_at hS fun o e => hm.heap S o hSw e))
  | succ k ih =>
    intro i s hk' hi hst hS hR
    have hlt : i < n := by omega
    refine codeAny_builtin F.entry_set_update_loop ?_
    rw [Around.under_plainId F.plain_set_update_loop _]
    show wpAny _ A.in1 (pyNext (.ref I) >>= _) _ _ s
    refine wpAny_bind (W.item i s _ _ hlt hst fun v s' hP hst' hm => ?_)
    obtain ⟨z, hz, hkey, hsc⟩ := hval i v hP
    have hS' : s'.heap.SetOf (mixKind P w) S (fun j => decide (j ∈ ks.take i)) (ddK (ks.take i)).length := setOf_at hS fun o e => hm.heap S o hSw e
    show wpAny _ A.in1 (holding [v] (setAdd S v) >>= _) _ _ s'
    refine wpAny_bind (wpAny_holding ?_)
    unfold setAdd
    refine wpAny_holding ?_
    refine wpAny_bind ((mixKind P w).pyHash (k := z) hkey ?_)
    have hroom : (ddK (ks.take i)).length + 1 < scanBound := by
      have h1 := ddK_len (ks.take i)
      rw [List.length_take] at h1
      omega
    refine wpAny_setAddHashed_of (s := { s' with toks := s'.toks + 1 }) hkey hsc hS' hroom fun h' hsb hS2 => ?_
    have et : ks.take (i + 1) = ks.take i ++ [z] := by rw [List.take_add_one, hz]; rfl
    have hS3 : h'.SetOf (mixKind P w) S (fun j => decide (j ∈ ks.take (i + 1))) (ddK (ks.take (i + 1))).length := by
      refine SetOf_congr hS2 (fun j => ?_) ?_
      · rw [et]
        simp [List.mem_append]
      · rw [et, ddK_snoc]
        unfold stepK
        by_cases hm : z ∈ ks.take i
        · rw [if_pos (decide_eq_true hm), if_pos ((mem_ddK _ _).mpr hm)]
        · rw [if_neg (by simpa using hm), if_neg (fun q => hm ((mem_ddK _ _).mp q)), List.length_append]; rfl
    refine wpAny_pure ⟨plainId_quiet F.plain_set_update_loop _, ih (i + 1) _ (by omega) hlt (W.frame _ s' _ _ hst' (Nat.le_succ _) fun b hb o e => ?_) hS3 fun s'' hm'' hS'' => ?_⟩
    · rw [hsb.2 b (fun h : b = S => hSf (by rw [← h]; exact hb))]; exact e
    · refine hR s'' (Moved.trans W.gtrans ((hm.mono hsub).then_heap (Nat.le_succ _) fun b o hb e => ?_) hm'') hS''
      rw [hsb.2 b (fun h : b = S => hb (by rw [h]; exact List.mem_cons_self))]; exact e
/-- the values are the keys -/
def KeysAre (P : Program) (w : World) (us : List Value) (ks : List Key) : Prop := us.length = ks.length ∧ ∀ (i : Nat) u, us[i]? = some u → ∃ k, ks[i]? = some k ∧ (mixKind P w).is k u = true ∧ u.scannable = true
theorem set_of_keys {p : Addr} {its : Array Value} (ks : List Key) {Q : Value → Shared → Prop} (quiet : A.handled = none) (isl : s.heap.IsList p its) (hks : KeysAre P w its.toList ks) (few : ks.length + 1 < scanBound)
    (fin : ∀ (g : Heap) (tk : Nat), g.SetOf (mixKind P w) s.heap.objs.size (fun j => decide (j ∈ ks)) (ddK ks).length → (∀ b o, s.heap.get? b = some o → g.get? b = some o) → Q (.ref s.heap.objs.size) { s with heap := g, toks := tk }) : wpAny (model P w) A (call (.type "set") [.ref p]) Q E s := by
  have size : its.size = ks.length := by rw [← hks.1, Array.length_toList]
  have f1 := F.called_set.made
  have f2 := F.called_set.sub
  have f3 := F.called_set.notType
  have f4 := F.called_set.canCreate
  have f5 := F.typeCall_set_1 (.ref p)
  obtain ⟨_, _, f6⟩ := F.called_set.mro
  refine wpAny_call (codeAny_of_tree (?_ : wpAny _ _ (callAny (.type "set") _) _ _ _))
  refine wpAny_pure ⟨Code.quiet_builtin _ (by decide +kernel), codeAny_builtin F.entry_type_call ?_⟩
  rw [Around.under_plain (weight_type_call_type "set" [.ref p] []) rfl]
  repeat (any_goals (first | assumption | wp_step))
  refine codeAny_mono (code_set_led1 (.ref p) (E := E) (Q₁ := fun v t => v = .ref s.heap.objs.size ∧ t = { s with heap := s.heap.push (nSet w) }) ⟨rfl, rfl⟩) fun r1 t1 e1 => ?_
  rcases r1 with r1 | r1
  · exact e1
  cases r1 with
  | ret v =>
    obtain ⟨rfl, rfl⟩ := e1
    have at0 : (s.heap.push (nSet w)).get? s.heap.objs.size = some (nSet w) := Heap.get?_push_size _ rfl
    have ty : Shared.TypeIs { s with heap := s.heap.push (nSet w) } (.ref s.heap.objs.size) "set" := ⟨_, at0, rfl⟩
    have f7 := F.called_set.init.lookup
    have f8 := F.called_set.init.bind (.ref s.heap.objs.size)
    repeat (any_goals (first | assumption | wp_step))
    refine codeAny_mono (codeAny_call_builtin (R := wants (fun v t => v = .none ∧ ∃ g tk, t = { s with heap := g, toks := tk } ∧ g.SetOf (mixKind P w) s.heap.objs.size (fun j => decide (j ∈ ks)) (ddK ks).length ∧ ∀ b o, s.heap.get? b = some o → g.get? b = some o) E) F.called_set.init.plain F.entry_set_init (check_set_init_1 ty ?_)) fun r2 t2 e2 => ?_
    · obtain ⟨⟨c0, d0, dat, sl⟩, ho, hc, n0, hd⟩ := isl
      simp only at hc hd
      subst hc hd
      have there : (s.heap.push (nSet w)).get? p = some { cls := .type "list", dict := d0, data := .seq its n0, slots := sl } := Heap.get?_push_of_some _ ho
      have g1 := F.sub_list_set
      have g2 := F.sub_list_frozenset
      have g3 : (Value.type "list" == Value.type "dict") = false := by decide
      have isl2 : (s.heap.push (nSet w)).IsList p its := ⟨_, there, rfl, n0, rfl⟩
      unfold Builtin.«set.__init__» noKeywords Builtin.Frozenset.updateFrom
      generalize hI : pyIter = IT
      wp_walk
      subst hI
      refine wpAny_pyIter_list isl2 (wpAny_bind (wpAny_runValue ?_))
      have old : p < s.heap.objs.size := Heap.lt_size ho
      have it0 : (s.heap.push (nSet w)).objs.size = s.heap.objs.size + 1 := Heap.size_push ..
      have quiet3 : A.in1.in1.in1.handled = none := by simp [quiet]
      have apart : p ≠ (s.heap.push (nSet w)).objs.size := fun e => Nat.ne_of_lt (Nat.lt_succ_of_lt old) (e.trans it0)
      have outside : s.heap.objs.size ∉ [(s.heap.push (nSet w)).objs.size, p] := by
        intro z
        simp only [List.mem_cons, List.not_mem_nil, or_false] at z
        rcases z with z | z
        · exact Nat.ne_of_lt (Nat.lt_succ_self _) (z.trans it0)
        · exact Nat.ne_of_gt old z
      have new : ((s.heap.push (nSet w)).push { cls := .type "list_iterator", data := .fields #[.ref p, .int 0 0] }).SetOf (mixKind P w) s.heap.objs.size (fun j => decide (j ∈ ks.take 0)) (ddK (ks.take 0)).length :=
        ⟨_, #[], 0, _, Heap.get?_push_of_some _ at0, ⟨rfl, rfl, rfl⟩, rfl, (fun e he => by simp at he), (fun k => by simp), (by decide), (by rfl), rfl⟩
      refine set_update_keys ((Walks.list quiet3 _ p apart its).toS) s.heap.objs.size outside ks size few (fun i v hv => ?_) (its.size - 0) 0 _ (by omega) (Nat.zero_le _) ⟨⟨_, Heap.get?_push_size _ rfl, rfl, rfl⟩, isl2.push _⟩ new fun t3 mv fin3 => ?_
      · exact hks.2 i v (by rw [Array.getElem?_toList]; exact hv)
      · obtain ⟨g, gs, dr, tk, os⟩ := t3
        obtain rfl : gs = s.gens := mv.gens
        obtain rfl : dr = s.drawn := mv.drawn
        obtain rfl : os = s.os := mv.os
        show wpAny _ _ _ _ _ _
        refine wpAny_pure (?_ : wpAny _ _ (ret Value.none) _ _ _)
        refine wpAny_pure ⟨rfl, g, tk, rfl, fin3, fun b o e => mv.heap b o (fun z => ?_) (Heap.get?_push_of_some _ (Heap.get?_push_of_some _ e))⟩
        have hb := Heap.lt_size e
        simp only [List.mem_cons, List.not_mem_nil, or_false] at z
        rcases z with z | z
        · exact Nat.ne_of_lt hb z
        · exact Nat.ne_of_lt (Nat.lt_succ_of_lt hb) (z.trans it0)
    · rcases r2 with r2 | r2
      · exact e2
      cases r2 with
      | ret v =>
        obtain ⟨rfl, g, tk, rfl, h1, h3⟩ := e2
        repeat (any_goals (first | assumption | wp_step))
        exact fin _ _ h1 h3
      | _ => exact e2.elim
  | _ => exact e1.elim
end
theorem keys_are {P : Program} {w : World} : ∀ {ks : List Key} {us : List Value}, Vals (ks.map kV) us → KeysAre P w us ks
  | [], us, r => by cases r; exact ⟨rfl, fun i u h => by simp at h⟩
  | k :: ks, us, r => by
    cases r with
    | cons r1 r2 =>
      have ih := keys_are (P := P) (w := w) r2
      refine ⟨by simp [ih.1], fun i u h => ?_⟩
      cases i with
      | zero =>
        simp only [List.getElem?_cons_zero, Option.some.injEq] at h ⊢
        subst h
        exact ⟨k, rfl, kV_is r1, key_scan r1⟩
      | succ i =>
        simp only [List.getElem?_cons_succ] at h ⊢
        exact ih.2 i u h
/-- an int, a text as a key -/
def kD : Key → D
  | .inl i => .int i
  | .inr x => .str x
theorem kD_val {K : PySem.W.Frag} {H : Hp} {k : Key} {v : V} (h : DR K H (kD k) v) : v = kV k := by
  cases k with
  | inl i => exact h
  | inr x => exact h
theorem kDs_val {K : PySem.W.Frag} {H : Hp} : ∀ {ks : List Key} {vs : List V}, DRs K H (ks.map kD) vs → vs = ks.map kV
  | [], vs, h => h
  | k :: ks, vs, h => by
    obtain ⟨v, r, rfl, h2, h3⟩ := h
    rw [kD_val h2, kDs_val h3]; rfl
section
variable {X : Cx} {ρ : En} {pos : Pos}
theorem call_setK (hc : X.calm = true) : CallR X (.type "set") (fun vs H Q => ∃ (l : Addr) (ks : List Key), vs = [.ref l] ∧ SqL X.K H l (ks.map kV) ∧ ks.length + 1 < scanBound ∧ ∀ p, H p = none → Q (.ref p) (upd H p (SetK X.prog X.w p (fun j => decide (j ∈ ks)) (ddK ks).length))) := by
  intro pins s σ H vs us Q I r h
  obtain ⟨l, ks, rfl, hs, few, q⟩ := h
  rw [Vals.ref1 r]
  obtain ⟨its, rv, pl, hz⟩ := I.list hs
  refine set_of_keys ks (I.ok.hd hc) pl.isList (by simpa using keys_are rv) few fun g tk hS hk => ?_
  exact ⟨.ref _, _, I.laid (t' := tk) hk (Nat.le_refl _) (setK_new hS), rfl, q _ (I.hok.fresh (Nat.le_refl _))⟩
theorem call_lenK : CallR X (.builtin "len") (fun vs H Q => ∃ (a : Addr) (S : Key → Bool) (n : Nat), vs = [.ref a] ∧ H a = some (SetK X.prog X.w a S n) ∧ Q (.int (n : Nat)) H) := by
  intro pins s σ H vs us Q I r h
  obtain ⟨a, S, n, rfl, ha, q⟩ := h
  rw [Vals.ref1 r]
  obtain ⟨o, es, ep, t, ho, hex, hd, _, _, hb, hf, hn⟩ := setK_get I ha
  refine call_len_set ho hex hd hf (by unfold scanBound at hb; omega) ⟨.int (n : Nat), H, I.tok _, ⟨_, by rw [hn]⟩, q⟩
/-- len(set(e)) -/
theorem ed_lenSetK {e : Expr} {ks : List Key} {p1 p2 q : Pos} (hc : X.calm = true) (hs : Gl X "len") (hms : X.mg "len" = none) (ht : Gl X "set") (hmt : X.mg "set" = none) (he : ED X ρ e (.lst (ks.map kD))) (few : ks.length + 1 < 4096)
    (h1 : starEach [e] X.env = (false, eval e X.env) :: starEach [] X.env := by rfl) (h2 : (backTo q (starEach [] X.env)).any (·.1) = false := by rfl)
    (h3 : starEach [.Call (.Name "set" p2) [e] [] q] X.env = (false, eval (.Call (.Name "set" p2) [e] [] q) X.env) :: starEach [] X.env := by rfl) (h4 : (backTo pos (starEach [] X.env)).any (·.1) = false := by rfl) :
    ED X ρ (.Call (.Name "len" p1) [.Call (.Name "set" p2) [e] [] q] [] pos) (.int ((ddK ks).length : Nat)) := fun B0 B σ H0 H Q j k => by
  refine RE.of (pe_callB call_lenK hs hms bb_len (pa_cons (pe_callTy (call_setK hc) ht hmt bb_set (pa_cons pe_star pa_nil h1) (by decide) (by decide) h1 h2) pa_nil h3) (by decide) (by decide) h3 h4) ?_
  refine he B0 B σ H0 H _ j fun v G0 G g r => ?_
  obtain ⟨l, vs, rfl, hS, rr⟩ := r
  rw [kDs_val rr] at hS
  refine ⟨l, ks, rfl, g.sh.seq hS, few, fun p hp => ?_⟩
  exact ⟨p, _, _, rfl, upd_same, k _ G0 _ (g.trans (JH.own g.sh hp)) rfl⟩
end
end DL
namespace DL
open PySem PySem.Spec PyProof.Rows L2
open PySem.W (EachIs AllAlike Sortable KeepsBut SortsAt KeyedOut dataLe dataKind alike sortingHeap sortingHeap_old)
section
variable {X : Cx} {ρ : En} {pos : Pos} {β : Type} {bs : List β} {enc : β → D}
theorem c2_leS {i j : Str} : C2 X .LtE (.str i) (.str j) (.bl (!decide (j.cps.toList < i.cps.toList))) := ⟨_, op_le_str, fun H0 H x y Q s r1 r2 k => by
  cases (show x = .str i from r1); cases (show y = .str j from r2)
  exact ⟨i, j, rfl, rfl, k _ H0 H (JH.refl s) rfl⟩⟩
theorem bc_strI {i : Int} (h : i.natAbs.log2 < 1920) : BC X (.type "str") [.int i] (.str (toString i)) := bc_keep call_str_int _ (fun _ => rfl) fun _ _ vs _ _ r q => by
  obtain ⟨x, rfl, h1⟩ := r.one'
  cases (show x = .int i from h1)
  exact ⟨i, rfl, h, q⟩
/-- the signs of a text, each a text -/
def sgn (c : Nat) : Str := ⟨#[c]⟩
theorem id_str {tg e : Expr} {z : Str} (h : ED X ρ e (.str z)) : ID X ρ tg e (z.cps.toList.map fun c => .str (sgn c)) := fun B0 B σ H0 H R j k =>
  ⟨_, pi_str pe_star, h B0 B σ H0 H _ j fun v G0 G g r => ⟨z, r, k _ G0 G g ⟨_, _, (by rw [List.length_map, Array.length_toList]; exact walk_str (z := z)), fun _ _ _ _ => trivial, fun i H1 H x H' d hd s1 s2 y => by
    obtain ⟨rfl, c, hc, rfl⟩ := y
    rw [List.getElem?_map, Array.getElem?_toList, hc] at hd
    cases hd
    exact ⟨H1, JH.refl s2, rfl⟩⟩⟩⟩
theorem c2_inStr {x : Str} {ys : List Str} {d : D} (hd : SeqD d (ys.map D.str)) : C2 X .In (.str x) d (.bl (decide (x ∈ ys))) := ⟨_, op_in_seq, fun H0 H u v Q s r1 r2 k => by
  cases (show u = .str x from r1)
  have hf : (ys.map V.str).all flatV = true := by simp [flatV]
  have hi : inV (.str x) (ys.map V.str) = decide (x ∈ ys) := by
    unfold inV
    rw [Bool.eq_iff_iff]
    simp only [List.any_eq_true, List.mem_map, decide_eq_true_eq]
    constructor
    · rintro ⟨v, ⟨y, hy, rfl⟩, h⟩
      have : y = x := by simpa [eqV] using h
      exact this ▸ hy
    · intro h
      exact ⟨.str x, ⟨x, h, rfl⟩, by simp [eqV]⟩
  have fin : Q (.bl (if false = true then !inV (.str x) (ys.map V.str) else inV (.str x) (ys.map V.str))) H := by
    rw [hi]; exact k _ H0 H (JH.refl s) rfl
  cases hd with
  | lst =>
    obtain ⟨a, vs, rfl, h1, h2⟩ := r2
    rw [DRs.strs h2] at h1
    exact ⟨a, _, rfl, .inl (s.seq h1), rfl, hf, fin⟩
  | tup =>
    obtain ⟨a, vs, rfl, h1, h2⟩ := r2
    rw [DRs.strs h2] at h1
    exact ⟨a, _, rfl, .inr (Same.seqT s h1), rfl, hf, fin⟩⟩
end
end DL
namespace DL
open PySem PySem.Spec PyProof.Rows L2
theorem Paired.mono {α β : Type} {R R' : α → β → Prop} (m : ∀ a b, R a b → R' a b) : ∀ {as : List α} {bs : List β}, Paired R as bs → Paired R' as bs
  | _, _, .nil => .nil
  | _, _, .cons h t => .cons (m _ _ h) (Paired.mono m t)
section
variable {X : Cx} {ρ : En} {pos : Pos}
/-- z[lo:hi], z a text -/
theorem ed_sliceS {e : Expr} {lo hi : Option Expr} {p q : Option Int} {z : Str} {p2 : Pos} (he : ED X ρ e (.str z)) (hz : z.length ≤ sizeLine) (hl : Part X ρ lo p) (hh : Part X ρ hi q) : ED X ρ (.Subscript e (.Slice lo hi none p2) pos) (.str (cutS z p q)) := fun B0 B σ H0 H Q j k =>
  RE.of (pe_slice sl_str pe_star po_star po_star) (he B0 B σ H0 H _ j fun v G0 G g1 r => hl.run (j.grow g1) fun L0 L g2 => hh.run ((j.grow g1).grow g2) fun M0 M g3 =>
    ⟨z, r, hz, k _ M0 M ((g1.trans g2).trans g3) rfl⟩)
/-- t[lo:hi], t a tuple -/
theorem ed_sliceT {e : Expr} {lo hi : Option Expr} {p q : Option Int} {ds : List D} {p2 : Pos} (he : ED X ρ e (.tup ds)) (hl : Part X ρ lo p) (hh : Part X ρ hi q) : ED X ρ (.Subscript e (.Slice lo hi none p2) pos) (.tup (cutD ds p q)) := fun B0 B σ H0 H Q j k =>
  RE.of (pe_slice sl_tupA pe_star po_star po_star) (he B0 B σ H0 H _ j fun v G0 G g1 r => hl.run (j.grow g1) fun L0 L g2 => hh.run ((j.grow g1).grow g2) fun M0 M g3 => by
    obtain ⟨a, vs, rfl, h1, h2⟩ := r
    have g := g2.trans g3
    have h2' := DRs.mono g.s0 _ _ h2
    have h1' := Same.seqT (g.sh) (Same.seqT g.s0 h1)
    refine ⟨a, vs, rfl, h1', fun hw => k _ M0 M (g1.trans g) ⟨a, _, rfl, Same.seqT g.s0 h1, by
      have e : cutD ds p q = ds := by
        unfold cutD
        rw [DRs.length h2', hw.1, hw.2, List.drop_zero, Nat.sub_zero, ← DRs.length h2', List.take_length]
      rw [e]; exact h2'⟩, fun hw pp hp => ?_⟩
    have g4 : JH M0 M (upd M0 pp (.tup (cutV vs p q))) (upd M pp (.tup (cutV vs p q))) := JH.new g.sh hp
    exact k _ _ _ ((g1.trans g).trans g4) ⟨pp, _, rfl, SqT.of upd_same, DRs.mono g4.s0 _ _ (DRs.cut h2' _ _)⟩)
end
end DL
namespace DL
open PySem PySem.Spec PyProof.Rows L2
theorem one_lt (a b : Nat) : (([a] : List Nat) < [b]) ↔ a < b := by
  constructor
  · intro h
    cases h with
    | rel h => exact h
    | cons h => cases h
  · exact fun h => List.Lex.rel h
theorem chX {x y : Str} {lo hi : Nat} (e1 : x.cps.toList = [lo]) (e2 : y.cps.toList = [hi]) (c : Nat) : ((!decide ((⟨#[c]⟩ : Str).cps.toList < x.cps.toList)) && (!decide (y.cps.toList < (⟨#[c]⟩ : Str).cps.toList))) = (decide (lo ≤ c) && decide (c ≤ hi)) := by
  rw [Bool.eq_iff_iff]
  simp only [Bool.and_eq_true, Bool.not_eq_true', decide_eq_false_iff_not, decide_eq_true_eq]
  rw [e1, e2]
  show ¬ (([c] : List Nat) < [lo]) ∧ ¬ (([hi] : List Nat) < [c]) ↔ _
  rw [one_lt, one_lt]
  omega
theorem chA (c : Nat) : ((!decide ((⟨#[c]⟩ : Str).cps.toList < (PySem.Str.ofString "a").cps.toList)) && (!decide ((PySem.Str.ofString "z").cps.toList < (⟨#[c]⟩ : Str).cps.toList))) = (decide (97 ≤ c) && decide (c ≤ 122)) :=
  chX (by decide +kernel) (by decide +kernel) c
theorem ch0 (c : Nat) : ((!decide ((⟨#[c]⟩ : Str).cps.toList < (PySem.Str.ofString "0").cps.toList)) && (!decide ((PySem.Str.ofString "9").cps.toList < (⟨#[c]⟩ : Str).cps.toList))) = (decide (48 ≤ c) && decide (c ≤ 57)) :=
  chX (by decide +kernel) (by decide +kernel) c
end DL
namespace DL
open PySem PySem.Spec PyProof.Rows L2
open PySem.W (AllAlike Sortable dataLe alike)
def loB (c : Nat) : Bool := decide (97 ≤ c) && decide (c ≤ 122)
def chB (c : Nat) : Bool := loB c || (decide (48 ≤ c) && decide (c ≤ 57))
def nameB (x : Str) : Bool := (decide (1 ≤ x.length) && decide (x.length ≤ 12)) && (loB (x.cps.toList.getD 0 0) && x.cps.toList.all chB)
structure Dev where
  k : Str
  g : Int
  a : Int
  b : Int
  w : Int
  l : Int
deriving DecidableEq
def Dev.e (v : Dev) : D := .tup [.str v.k, .int v.g, .int v.a, .int v.b, .int v.w, .int v.l]
abbrev Nm := Int × Str
def nmE (q : Nm) : D := .tup [.int q.1, .str q.2]
structure DevOk (n : Int) (v : Dev) : Prop where
  k : v.k = ("n" : Str) ∨ v.k = ("p" : Str)
  g : 0 ≤ v.g ∧ v.g < n
  e : 0 ≤ v.a ∧ v.a ≤ v.b ∧ v.b < n
  w : 1 ≤ v.w
  l : 1 ≤ v.l
structure CirOk (n : Int) (N : List Nm) (V : List Dev) : Prop where
  nn : 0 ≤ n ∧ n ≤ 200
  nm : ∀ q ∈ N, (0 ≤ q.1 ∧ q.1 < n) ∧ nameB q.2 = true
  d1 : (N.map (·.1)).Nodup
  d2 : (N.map (·.2)).Nodup
  nl : N.length ≤ 1000
  vl : V.length ≤ 200
  dv : ∀ v ∈ V, DevOk n v
noncomputable def srtN (N : List Nm) : List Nm := srtK nmE N
theorem srtN_perm (N : List Nm) : (srtN N).Perm N := srtK_perm nmE N
theorem at_first {x : Str} {k : Bool} (h : (!(decide ((1 : Int) ≤ (x.length : Int)) && k)) = false) : atI x.cps.toList 0 = some (x.cps.toList.getD 0 0) := by
  have h1 : 1 ≤ x.length := by
    simp only [Bool.not_eq_false', Bool.and_eq_true, decide_eq_true_eq] at h
    omega
  refine atI_nn (by decide) ?_
  have : (0 : Int).toNat < x.cps.toList.length := by rw [Array.length_toList]; exact h1
  rw [List.getElem?_eq_getElem this, List.getD_eq_getElem?_getD, List.getElem?_eq_getElem (by exact this)]
  rfl
theorem name_no {x : Str} (h : ((!(decide ((1 : Int) ≤ (x.length : Int)) && decide ((x.length : Int) ≤ 12))) || (!(decide (97 ≤ x.cps.toList.getD 0 0) && decide (x.cps.toList.getD 0 0 ≤ 122)))) = true) : nameB x = false := by
  unfold nameB loB
  rw [show decide (1 ≤ x.length) = decide ((1 : Int) ≤ (x.length : Int)) from decide_eq_decide.mpr (by omega), show decide (x.length ≤ 12) = decide ((x.length : Int) ≤ 12) from decide_eq_decide.mpr (by omega)]
  revert h
  generalize (decide ((1 : Int) ≤ (x.length : Int)) && decide ((x.length : Int) ≤ 12)) = p
  generalize (decide (97 ≤ x.cps.toList.getD 0 0) && decide (x.cps.toList.getD 0 0 ≤ 122)) = q
  cases p <;> cases q <;> simp
theorem name_yes {x : Str} (h : ((!(decide ((1 : Int) ≤ (x.length : Int)) && decide ((x.length : Int) ≤ 12))) || (!(decide (97 ≤ x.cps.toList.getD 0 0) && decide (x.cps.toList.getD 0 0 ≤ 122)))) = false) : nameB x = (x.cps.toList.map chB).all id := by
  unfold nameB loB
  rw [show decide (1 ≤ x.length) = decide ((1 : Int) ≤ (x.length : Int)) from decide_eq_decide.mpr (by omega), show decide (x.length ≤ 12) = decide ((x.length : Int) ≤ 12) from decide_eq_decide.mpr (by omega)]
  revert h
  generalize (decide ((1 : Int) ≤ (x.length : Int)) && decide ((x.length : Int) ≤ 12)) = p
  generalize (decide (97 ≤ x.cps.toList.getD 0 0) && decide (x.cps.toList.getD 0 0 ≤ 122)) = q
  cases p <;> cases q <;> simp [List.all_map]
def devB (n : Int) (v : Dev) : Bool := (decide (v.k ∈ (["n", "p"] : List Str)) && ((decide (0 ≤ v.g) && decide (v.g < n)) && ((decide (0 ≤ v.a) && (decide (v.a ≤ v.b) && decide (v.b < n))) && (decide (1 ≤ v.w) && decide (1 ≤ v.l)))))
theorem bc_tupSeq {X : Cx} {d : D} {ds : List D} (h : SeqD d ds) : BC X (.type "tuple") [d] (.tup ds) := by
  cases h with
  | lst => exact bc_tupL
  | tup => exact bc_tupT
theorem nameB_len {x : Str} (h : nameB x = true) : x.length ≤ 12 := by
  unfold nameB at h
  simp only [Bool.and_eq_true, decide_eq_true_eq] at h
  exact h.1.2
theorem nodup_inl {N : List Nm} (h : (N.map (·.1)).Nodup) : (N.map fun q : Nm => (Sum.inl q.1 : Key)).Nodup := by
  have : (N.map fun q : Nm => (Sum.inl q.1 : Key)) = (N.map (·.1)).map Sum.inl := by rw [List.map_map]; rfl
  rw [this]
  exact List.Pairwise.map _ (fun a b hab e => hab (Sum.inl.inj e)) h
def nmK (q : Nm) : Key × D := (.inl q.1, .str q.2)
theorem CirOk.keys {n : Int} {N : List Nm} {V : List Dev} (ok : CirOk n N V) : (((srtN N).map nmK).map (·.1)).Nodup := by
  rw [List.map_map]
  exact nodup_inl (((srtN_perm N).map (·.1)).nodup_iff.mpr ok.d1)
end DL
namespace DL
open PySem PySem.Spec PyProof.Rows L2
theorem grow_by_tuple (a b : Addr) (xs ys : Array Value) (n m : Nat) (dd : Option Addr) (sl : Array (Option Value)) (room : ¬(!xs.isEmpty && Builtin.List.listTooLong (xs.size + ys.size)) = true) (few : xs.size ≤ sizeLine) (few2 : xs.size + ys.size ≤ sizeLine + 1) :
    Meets (Builtin.«list.extend» ⟨[.ref a, .ref b], []⟩) (fun _ R s => s.heap.get? a = some { cls := .type "list", dict := none, data := .seq xs n, slots := #[] } ∧ s.heap.get? b = some { cls := .type "tuple", dict := dd, data := .seq ys m, slots := sl } ∧
      R (.ok (.ret .none)) { s with heap := s.heap.update a (Obj.mapSeq (· ++ ys)), toks := s.toks }) := .of_wp fun prog w A R s h => by
  obtain ⟨hp, gs, dr, tk, os⟩ := s
  obtain ⟨ga, gb, fin⟩ := h
  have t1 := AutoSeq1.idx_int
  have t2 := AutoSeq1.sub_tuple_tuple
  have t3 := AutoSeq1.sub_list_list
  have t4 := AutoSeq1.sub_tuple_list
  have t5 := AutoSeq1.sub_list_tuple
  have few3 : (xs ++ ys).size ≤ sizeLine + 1 := by rw [Array.size_append]; exact few2
  wp_walk using (wpAny_updateSeq ga rfl (hz := few) (_hz' := few3)), AutoSeq1.wpAny_loadPart' ga, AutoSeq1.wpAny_loadPart' gb
  exact ⟨_, rfl, fin⟩
section
variable {X : Cx} {ρ : En} {pos : Pos}
def rExtT (K : PySem.W.Frag) : V → List V → Hp → VK → Prop := fun x vs H Q => ∃ l b xs zs, x = .ref l ∧ vs = [.ref b] ∧ H l = some (.lst xs) ∧ SqT K H b zs ∧ xs.length + zs.length ≤ sizeLine ∧ Q .non (upd H l (.lst (xs ++ zs)))
theorem mt_extT : MtM X "list.extend" (rExtT X.K) := by
  intro pins s σ H x vs v us Q I rx rv h
  obtain ⟨l, b, xs, zs, rfl, rfl, hH, hB, hz, q⟩ := h
  cases rx
  obtain ⟨u, rfl, ru⟩ := rv.one
  cases ru
  obtain ⟨z, its, n, r, hl, e⟩ := I.lstM hH
  obtain ⟨its2, r2, ⟨⟨cl, dd, dat, sl⟩, e2, hc2, n2, hd2⟩, hl2⟩ := I.tuple hB
  simp only at hc2 hd2
  subst hc2 hd2
  have len1 := r.length
  have len2 := r2.length
  have hsz : its.toArray.size + its2.toArray.size ≤ sizeLine := by rw [List.size_toArray, List.size_toArray]; omega
  have hlong : ¬ (!its.toArray.isEmpty && Builtin.List.listTooLong (its.toArray.size + its2.toArray.size)) = true := by
    rw [notLongL hsz, Bool.and_false]
    exact Bool.false_ne_true
  refine call_meets F.slot_list_extend ⟨_, e, rfl⟩ F.entry_list_extend (F.args_list_extend_2 _ _)
    (grow_by_tuple l b its.toArray its2.toArray n n2 dd sl hlong (by rw [List.size_toArray]; omega) (by omega)) ⟨e, e2, ?_⟩
  refine ⟨.non, _, I.lset (its' := its ++ its2) hH e (by simp) (r.append r2) ?_, rfl, q⟩
  rw [List.length_append]
  omega
/-- x.extend(t), x the list that slot i owns, t a tuple -/
theorem ws_extendT (i : Nat) {x : Str} {e : Expr} {ds zs : List D} {p1 p2 p3 : Pos} {Φ : Out → Prop} (hi : ρ[i]? = some (.ow (.lst ds))) (he : ED X ρ e (.tup zs)) (hl : ds.length + zs.length ≤ sizeLine) (hΦ : Φ (.nx (ρ.set i (.ow (.lst (ds ++ zs))))))
    (hpe : ∀ {ta : TA}, PA X [e] ta → PS X (.Expr (.Call (.Attribute (.Name x p1) "extend" p2) [e] [] p3) pos) (tDrop (tBM X.K "list" (rExtT X.K) (tVar i) ta)))
    (hs : starEach [e] X.env = (false, eval e X.env) :: starEach [] X.env := by rfl) :
    WS X (.Expr (.Call (.Attribute (.Name x p1) "extend" p2) [e] [] p3) pos) ρ Φ := fun B0 B σ H0 H Dn j k => by
  obtain ⟨ov, e0, a, o, rfl, w1, w2, w3, w4⟩ := j.get hi
  obtain ⟨vs0, rfl, r0⟩ := w4
  refine ⟨_, hpe (pa_cons pe_star pa_nil hs), _, e0, Or.inl ⟨rfl, _, Or.inl (Or.inl w1)⟩, he B0 B σ H0 H _ j fun q G0 G g r => ?_⟩
  obtain ⟨b, zs', rfl, h1, h2⟩ := r
  have j1 := j.grow g
  obtain ⟨ov, e1, a', o, e9, w1, w2, w3, w4⟩ := j1.get hi
  rw [e0] at e1; cases e1; cases e9
  obtain ⟨vs, rfl, r'⟩ := w4
  exact ⟨a, b, vs, zs', rfl, rfl, w1, Same.seqT g.sh h1, by rw [← DRs.length r', ← DRs.length h2]; exact hl, k _ hΦ _ G0 _ (j1.write hi e0 ⟨_, rfl, DRs.app r' h2⟩)⟩
theorem c2_inInts {i : Int} {ns : List Int} : C2 X .In (.int i) (.lst (ns.map .int)) (.bl (decide (i ∈ ns))) := ⟨_, op_in_seq, fun H0 H u v Q s r1 r2 k => by
  cases (show u = .int i from r1)
  obtain ⟨a, vs, rfl, h1, h2⟩ := r2
  rw [DRs.ints h2] at h1
  have hi : inV (.int i) (ns.map V.int) = decide (i ∈ ns) := by
    unfold inV
    rw [Bool.eq_iff_iff]
    simp only [List.any_eq_true, List.mem_map, decide_eq_true_eq]
    constructor
    · rintro ⟨v, ⟨y, hy, rfl⟩, h⟩
      have : y = i := by simpa [eqV] using h
      exact this ▸ hy
    · intro h
      exact ⟨.int i, ⟨i, h, rfl⟩, by simp [eqV]⟩
  refine ⟨a, _, rfl, .inl (s.seq h1), rfl, by simp [flatV], ?_⟩
  rw [hi]
  exact k _ H0 H (JH.refl s) rfl⟩
end
end DL
namespace DL
open PySem PySem.Spec PyProof.Rows L2
section
variable {Jt : It} {n : Nat} {G : Hp → Prop} {Y : Nat → Hp → V → Hp → Prop}
theorem dc_it (w : Walk Jt n G Y) {g : TG} {tt : TT} {tk tv : TE} {vs : List Nat} {σ : L2.St} {H1 : Hp} {p : Addr} {Qd : Hp → Prop} (Pv : Nat → Hp → Prop) (h0 : Pv 0 (upd H1 p (.dK []))) (hG : ∀ i H, i ≤ n → Pv i H → G H)
    (hs : ∀ i x H H', i < n → Pv i H → Y i H x H' → g x (wipe σ vs) H' fun σ2 H2 => wipe σ2 vs = wipe σ vs ∧ tt σ2 H2 fun b H3 =>
      if b = true then tk σ2 H3 fun y H4 => tv σ2 H4 fun z H5 => ∃ kvs k, y = kV k ∧ H5 p = some (.dK kvs) ∧ kvs.length < sizeLine ∧ Pv (i + 1) (upd H5 p (.dK (putK kvs k z))) else Pv (i + 1) H3) (hd : ∀ H, Pv n H → Qd H) :
    ∃ W : Nat → Nat → Hp → Prop, (∃ m, W 0 m (upd H1 p (.dK []))) ∧ ∀ i m H, W i m H →
      (Jt.stop i H ∧ Qd H) ∨ (Jt.go i H ∧ ∃ Nx : Hp → Prop, (∀ H', Nx H' → ∃ m', m' < m ∧ W (i + 1) m' H') ∧ ∀ x H', Jt.yld i H x H' → g x (wipe σ vs) H' fun σ2 H2 => wipe σ2 vs = wipe σ vs ∧ tt σ2 H2 fun b H3 =>
        if b = true then tk σ2 H3 fun y H4 => tv σ2 H4 fun z H5 => ∃ kvs k, y = kV k ∧ H5 p = some (.dK kvs) ∧ kvs.length < sizeLine ∧ Nx (upd H5 p (.dK (putK kvs k z))) else Nx H3) := by
  refine ⟨fun i m H => i + m = n ∧ Pv i H, ⟨n, by omega, h0⟩, fun i m H ⟨e, q⟩ => ?_⟩
  have gq := hG i H (by omega) q
  cases m with
  | zero =>
    obtain rfl : i = n := by omega
    exact .inl ⟨w.stops H gq, hd H q⟩
  | succ m => exact .inr ⟨w.goes i H (by omega) gq, Pv (i + 1), fun H' q' => ⟨m, by omega, by omega, q'⟩, fun x H' y => hs i x H H' (by omega) q (w.yields i H x H' (by omega) gq y)⟩
end
section
variable {X : Cx} {ρ : En} {kx vx tg iter : Expr} {ifs : List Expr} {scope : Scope} {ds : List D} {cpos : Pos} {α : Type}
/-- one turn -/
def TurnD (X : Cx) (ρ : En) (scope : Scope) (vs : List Nat) (tg kx vx : Expr) (d : D) (k : Key) (v : D) : Prop :=
  ∃ ρ' : En, ρ'.length = ρ.length ∧ ∀ (s : Shared) (H : Hp) (C : Addr) (cl : List (Str × Addr)) (fp : List Addr), DG (X.blk s H scope (compEnvC scope cl C X.env) fp) vs tg d (wipeE ρ vs) ρ' ∧
    ED (X.blk s H scope (compEnvC scope cl C X.env) fp) ρ' kx (kD k) ∧ ED (X.blk s H scope (compEnvC scope cl C X.env) fp) ρ' vx v
end
end DL
namespace DL
open PySem PySem.Spec PyProof.Rows L2
def nmPre (d : Int) : Str := cutS (nmOf d) none (some 7)
def qStr (d : Int) (net : Nat) : Str := (nmPre d ++ ("k" : Str)) ++ (Str.ofString (toString (net : Int)))
def preOk (x : Str) : Bool := (decide (1 ≤ x.length) && decide (x.length ≤ 4)) && (loB (x.cps.toList.getD 0 0) && x.cps.toList.all chB)
theorem pre_all : ∀ a : Fin 26, ∀ b : Fin 6, preOk (cutS ((⟨#[ltr.cps.toList.getD a.val 0]⟩ : Str) ++ tls.getD b.val "") none (some 7)) = true := by decide +kernel
theorem pre_ok (d : Int) : preOk (nmPre d) = true := by
  have h1 : (d % 26).toNat < 26 := by omega
  have h2 : (d / 26 % 6).toNat < 6 := by omega
  exact pre_all ⟨_, h1⟩ ⟨_, h2⟩
def digB (c : Nat) : Bool := decide (48 ≤ c) && decide (c ≤ 57)
theorem dig_all : ∀ a : Fin 64, let x := Str.ofString (toString ((a.val : Nat) : Int)); (decide (1 ≤ x.length) && decide (x.length ≤ 2) && x.cps.toList.all digB) = true := by decide +kernel
theorem dig_inj : ∀ a b : Fin 64, (Str.ofString (toString ((a.val : Nat) : Int))).cps.toList = (Str.ofString (toString ((b.val : Nat) : Int))).cps.toList → a = b := by decide +kernel
theorem all_app {x y : Str} {p : Nat → Bool} : (x ++ y).cps.toList.all p = (x.cps.toList.all p && y.cps.toList.all p) := by
  show (x.cps ++ y.cps).toList.all p = _
  rw [Array.toList_append, List.all_append]
theorem len_app (x y : Str) : (x ++ y).length = x.length + y.length := Array.size_append
theorem cps_app (x y : Str) : (x ++ y).cps.toList = x.cps.toList ++ y.cps.toList := by
  show (x.cps ++ y.cps).toList = _
  rw [Array.toList_append]
theorem dig_ok {n : Nat} (h : n < 64) : (1 ≤ (Str.ofString (toString (n : Int))).length ∧ (Str.ofString (toString (n : Int))).length ≤ 2) ∧ (Str.ofString (toString (n : Int))).cps.toList.all digB = true := by
  have := dig_all ⟨n, h⟩
  simp only [Bool.and_eq_true, decide_eq_true_eq] at this
  exact this
theorem chB_of {c : Nat} (h : digB c = true) : chB c = true := by
  unfold chB; unfold digB at h; rw [h, Bool.or_true]
theorem qStr_ok (d : Int) {n : Nat} (h : n < 64) : nameB (qStr d n) = true := by
  have h1 := pre_ok d
  have h2 := dig_ok h
  unfold preOk at h1
  simp only [Bool.and_eq_true, decide_eq_true_eq] at h1
  obtain ⟨⟨l1, l2⟩, f, a⟩ := h1
  have lk : ("k" : Str).length = 1 := by decide +kernel
  have ak : ("k" : Str).cps.toList.all chB = true := by decide +kernel
  unfold nameB qStr
  rw [len_app, len_app, lk, all_app, all_app, a, ak, cps_app, cps_app]
  have hne : (nmPre d).cps.toList ≠ [] := fun e => by
    have : (nmPre d).cps.toList.length = 0 := by rw [e]; rfl
    rw [Array.length_toList] at this
    have l1' : 1 ≤ (nmPre d).cps.size := l1
    omega
  have hf : ((nmPre d).cps.toList ++ ("k" : Str).cps.toList ++ (Str.ofString (toString (n : Int))).cps.toList).getD 0 0 = (nmPre d).cps.toList.getD 0 0 := by
    cases q : (nmPre d).cps.toList with
    | nil => exact absurd q hne
    | cons c r => rfl
  rw [hf, f]
  have hd : (Str.ofString (toString (n : Int))).cps.toList.all chB = true := List.all_eq_true.mpr fun c hc => chB_of (List.all_eq_true.mp h2.2 c hc)
  rw [hd]
  simp only [Bool.and_true, Bool.and_eq_true, decide_eq_true_eq]
  omega
theorem tail_eq {x : Nat} {P P' D D' : List Nat} (hD : ∀ c ∈ D, c ≠ x) (hD' : ∀ c ∈ D', c ≠ x) (h : P ++ x :: D = P' ++ x :: D') : D = D' := by
  have h1 : ∀ (P D : List Nat), (∀ c ∈ D, c ≠ x) → ((P ++ x :: D).reverse.takeWhile (fun c => decide (c ≠ x))) = D.reverse := fun P D hD => by
    rw [List.reverse_append, List.reverse_cons, List.append_assoc, List.takeWhile_append_of_pos]
    · simp
    · intro c hc
      exact decide_eq_true (hD c (List.mem_reverse.mp hc))
  have := congrArg (fun l => l.reverse.takeWhile (fun c => decide (c ≠ x))) h
  simp only [h1 P D hD, h1 P' D' hD'] at this
  exact List.reverse_inj.mp this
theorem qStr_inj {d d' : Int} {n n' : Nat} (h : n < 64) (h' : n' < 64) (e : qStr d n = qStr d' n') : n = n' := by
  have e1 := congrArg (fun z : Str => z.cps.toList) e
  unfold qStr at e1
  simp only [cps_app] at e1
  have ek : ("k" : Str).cps.toList = [107] := by decide +kernel
  rw [ek, List.append_assoc, List.append_assoc] at e1
  have no : ∀ {m : Nat}, m < 64 → ∀ c ∈ (Str.ofString (toString (m : Int))).cps.toList, c ≠ 107 := fun {m} hm c hc => by
    have := List.all_eq_true.mp (dig_ok hm).2 c hc
    unfold digB at this
    simp only [Bool.and_eq_true, decide_eq_true_eq] at this
    omega
  have e2 := tail_eq (no h) (no h') e1
  have := dig_inj ⟨n, h⟩ ⟨n', h'⟩ e2
  exact congrArg Fin.val this
def kindOf (r : Int) : Str := if r % 2 = 0 then "n" else "p"
theorem ix_kind (r : Int) : IX (.lst [.str "n", .str "p"]) (.int (r % 2)) (.str (kindOf r)) := by
  unfold kindOf
  have : r % 2 = 0 ∨ r % 2 = 1 := by omega
  rcases this with h | h
  · rw [h, if_pos rfl]; exact IX.l0
  · rw [h, if_neg (by decide)]; exact IX.l1
theorem nmOf_len (d : Int) : (nmOf d).length ≤ sizeLine := by
  have h := tls_len (d / 26 % 6).toNat
  unfold nmOf
  rw [len_app, sizeLine_eq]
  have : (⟨#[ltr.cps.toList.getD (d % 26).toNat 0]⟩ : Str).length = 1 := rfl
  omega
theorem pre_len (d : Int) : (nmPre d).length ≤ 4 := by
  have h1 := pre_ok d
  unfold preOk at h1
  simp only [Bool.and_eq_true, decide_eq_true_eq] at h1
  exact h1.1.2
theorem q1_len (d : Int) : (cutS (nmOf d) none (some 7)).length + (Str.ofString "k").length ≤ sizeLine := by
  have := pre_len d
  have lk : ("k" : Str).length = 1 := by decide +kernel
  show (nmPre d).length + ("k" : Str).length ≤ sizeLine
  rw [lk, sizeLine_eq]; omega
theorem q2_len (d : Int) {n : Nat} (h : n < 64) : (cutS (nmOf d) none (some 7) ++ Str.ofString "k").length + (Str.ofString (toString (n : Int))).length ≤ sizeLine := by
  have := pre_len d
  have h2 := dig_ok h
  have lk : ("k" : Str).length = 1 := by decide +kernel
  show (nmPre d ++ ("k" : Str)).length + _ ≤ sizeLine
  rw [len_app, lk, sizeLine_eq]; omega
theorem log_small {n m : Nat} (h : n < m) (hm : m ≤ 100) : ((n : Int)).natAbs.log2 < 1920 := by
  rw [Int.natAbs_natCast]
  by_cases h0 : n = 0
  · subst h0; decide
  · rw [Nat.log2_lt h0]
    have : n < 2 ^ 7 := by omega
    exact Nat.lt_of_lt_of_le this (Nat.pow_le_pow_right (by decide) (show 7 ≤ 1920 by omega))
end DL
namespace DL
open PySem PySem.Spec PyProof.Rows L2
section
variable {X : Cx} {ρ : En} {elt tg iter : Expr} {scope : Scope} {ds : List D} {cpos pos : Pos} {Φ : Out → Prop}
variable {e a b : Expr} {d : D}
theorem drs_rep {K : PySem.W.Frag} {H : Hp} {ds : List D} {vs : List V} (h : DRs K H ds vs) : ∀ k : Nat, DRs K H (List.replicate k ds).flatten (List.replicate k vs).flatten
  | 0 => rfl
  | k + 1 => by
    rw [List.replicate_succ, List.replicate_succ, List.flatten_cons, List.flatten_cons]
    exact DRs.app h (drs_rep h k)
/-- xs * n, xs a new list -/
theorem eo_rep {n : Int} (ha : EO X ρ a (.lst ds)) (hb : ED X ρ b (.int n)) (h0 : 0 ≤ n) (h1 : n ≤ 1000000) (hl : ds.length * n.toNat ≤ sizeLine) : EO X ρ (.BinOp a .Mult b pos) (.lst (List.replicate n.toNat ds).flatten) := fun B0 B σ H0 H Q j k =>
  RE.of (pe_op op_rep pe_star pe_star) (ha B0 B σ H0 H _ j fun q o G0 G g w1 w2 w3 w4 => hb B0 B σ G0 G _ (j.grow g) fun w L0 L g2 r2 => by
    obtain ⟨vs, rfl, r⟩ := w4
    have gg := g.trans g2
    exact ⟨q, n, vs, rfl, r2, g2.sB _ _ w1, by omega, by omega, by rw [← DRs.length r]; exact hl, fun p hp => k p _ L0 _ (gg.trans (JH.own gg.sh hp)) upd_same (gg.sh.free hp) (gg.sB.free hp) ⟨_, rfl, drs_rep (DRs.mono g2.s0 _ _ r) _⟩⟩)
end
end DL
namespace DL
open PySem PySem.Spec PyProof.Rows L2
local instance (priority := 2000) keyBEq26 : BEq Key := instBEqOfDecidableEq
end DL
namespace DL
open PySem PySem.Spec PyProof.Rows L2
/-- behind an except suite, its name is gone -/
def Aft (i : Nat) (Φ : Out → Prop) : Out → Prop
  | .nx ρ => Φ (.nx (ρ.set i .no))
  | .bk ρ => Φ (.bk (ρ.set i .no))
  | .ct ρ => Φ (.ct (ρ.set i .no))
  | o => Φ o
section
variable {X : Cx} {ρ ρx : En} {pos : Pos} {Φ : Out → Prop}
/-- try: body, where nothing is raised -/
theorem ws_try0 {body : List Stmt} {h0 : ExceptHandler} {hs : List ExceptHandler} (h : WSs X body ρ Φ) (hx : X.nox = X := by rfl) : WS X (.Try body (h0 :: hs) [] [] pos) ρ Φ := fun B0 B σ H0 H Dn j k =>
  ⟨_, ps_try_thru0 (t := RSs X body) (by rw [hx]; exact pss_star), h B0 B σ H0 H Dn j k⟩
end
end DL
namespace DL
open PySem PySem.Spec PyProof.Rows L2
/-- the class named cn is caught by except xn -/
structure Xm (K : PySem.W.Frag) (mg : Str → Option Value) (cn xn : Str) : Prop where
  ex : ∃ C D, PySem.W.nsIn K mainGlobals cn = some (some (.ref C)) ∧ mg xn = some (.ref D) ∧ PySem.W.exmOne K (.ref C) (.ref D) = some true
/-- isinstance(e, c), e of the class named cn -/
structure Xi (K : PySem.W.Frag) (mg : Str → Option Value) (cn c : Str) (b : Bool) : Prop where
  ex : ∃ C D, PySem.W.nsIn K mainGlobals cn = some (some (.ref C)) ∧ mg c = some (.ref D) ∧ PySem.W.kitOne K (.ref C) (.ref D) = some b
end DL
namespace DL
open PySem PySem.Spec PyProof.Rows L2
theorem putF_old {f : Str} {y : V} : ∀ {ns : List Str} {vs : List V} {m : Nat}, ns[m]? = some f → (ns.take m).contains f = false → ns.length = vs.length → putF f y (ns.zip vs) = ns.zip (vs.set m y)
  | n :: ns, v :: vs, 0, h, _, hl => by
    simp only [List.getElem?_cons_zero, Option.some.injEq] at h
    subst h
    show (if n = n then (n, y) :: ns.zip vs else _) = _
    rw [if_pos rfl]; rfl
  | n :: ns, v :: vs, m + 1, h, hc, hl => by
    rw [List.take_succ_cons, List.contains_cons, Bool.or_eq_false_iff] at hc
    have hne : ¬ (n = f) := fun e => by rw [e] at hc; simp at hc
    show (if n = f then _ else (n, v) :: putF f y (ns.zip vs)) = _
    rw [if_neg hne, putF_old (by simpa using h) hc.2 (by simpa using hl)]
    rfl
  | [], _, _, h, _, _ => by simp at h
  | n :: ns, [], _, _, _, hl => by simp at hl
end DL
namespace DL
open PySem PySem.Spec PyProof.Rows L2
theorem kit_ty {K : PySem.W.Frag} {C : Addr} {T : String} {b : Bool} (h4 : PySem.W.subIn K (.ref C) (.type T) = some b) (hm : PySem.W.kitMeta T = true := by decide +kernel) : PySem.W.kitOne K (.ref C) (.type T) = some b := by
  unfold PySem.W.kitOne
  rw [if_neg (show ¬ ((Value.ref C == Value.type T) = true) from Bool.false_ne_true)]
  show (if PySem.W.kitMeta T = true then PySem.W.subIn K (.ref C) (.type T) else none) = some b
  rw [if_pos hm]; exact h4
end DL
namespace DL
open PySem PySem.Spec PyProof.Rows L2
def layN : List Str := ["well", "active", "poly", "contact", "metal", "via", "top"]
def labN : List Str := ["active", "poly", "metal", "top"]
abbrev Shp := Str × Bx
def shE (s : Shp) : D := .tup [.str s.1, s.2.e]
def shB (s : Shp) : Bool := decide (s.1 ∈ layN) && (decide (s.2.a < s.2.c) && decide (s.2.b < s.2.d))
structure Lab where
  n : Str
  l : Str
  x : Int
  y : Int
def Lab.e (v : Lab) : D := .tup [.str v.n, .str v.l, .int v.x, .int v.y]
def labB (v : Lab) : Bool := nameB v.n && decide (v.l ∈ labN)
structure Pla where
  n : Str
  t : Int
  dx : Int
  dy : Int
  c : Int
  r : Int
  sx : Int
  sy : Int
def Pla.e (v : Pla) : D := .tup [.str v.n, .tup [.int v.t, .int v.dx, .int v.dy], .int v.c, .int v.r, .int v.sx, .int v.sy]
def plaB (v : Pla) : Bool := nameB v.n && ((decide (0 ≤ v.t) && decide (v.t < 8)) && ((decide (1 ≤ v.c) && decide (v.c ≤ 100)) && (decide (1 ≤ v.r) && decide (v.r ≤ 100))))
def celB (n : Str) (S : List Shp) (L : List Lab) (P : List Pla) : Bool := nameB n && (S.all shB && (L.all labB && P.all plaB))
structure CelOk (n : Str) (S : List Shp) (L : List Lab) (P : List Pla) : Prop where
  n : nameB n = true
  s : ∀ x ∈ S, shB x = true
  l : ∀ x ∈ L, labB x = true
  p : ∀ x ∈ P, plaB x = true
theorem CelOk.b {n : Str} {S : List Shp} {L : List Lab} {P : List Pla} (ok : CelOk n S L P) : celB n S L P = true := by
  unfold celB
  rw [ok.n, List.all_eq_true.mpr ok.s, List.all_eq_true.mpr ok.l, List.all_eq_true.mpr ok.p]; rfl
theorem at_getC {α : Type} {xs : List α} {f : α → D} {i : Int} {a : α} (h : 0 ≤ i ∧ i < xs.length) : atI (xs.map f) i = some (f (xs.getD i.toNat a)) := by
  have hi : i.toNat < xs.length := by omega
  refine atI_nn h.1 ?_
  rw [List.getElem?_map, List.getElem?_eq_getElem hi, List.getD_eq_getElem?_getD, List.getElem?_eq_getElem hi]
  rfl
def MD : Nat → D → Prop
  | 0, d => (∃ i, d = .int i) ∨ ∃ z, d = .str z
  | k + 1, d => ((∃ i, d = .int i) ∨ ∃ z, d = .str z) ∨ ∃ es, d = .tup es ∧ es.length ≤ 1000 ∧ ∀ e ∈ es, MD k e
class MdC (k : Nat) (d : D) (P : outParam Prop) where
  out : MD k d → P
instance (d : D) : MdC 0 d ((∃ i, d = .int i) ∨ ∃ z, d = .str z) := ⟨fun h => h⟩
instance (k : Nat) (d : D) : MdC (k + 1) d ((∃ i, d = .int i) ∨ (∃ z, d = .str z) ∨ ∃ es, d = .tup es ∧ es.length ≤ 1000 ∧ ∀ e ∈ es, MD k e) := ⟨fun h => by
  rcases h with (h | h) | h
  · exact .inl h
  · exact .inr (.inl h)
  · exact .inr (.inr h)⟩
theorem getD_mem {α : Type} {xs : List α} {i : Int} {a : α} (h : 0 ≤ i ∧ i < xs.length) : xs.getD i.toNat a ∈ xs := by
  have hi : i.toNat < xs.length := by omega
  rw [List.getD_eq_getElem?_getD, List.getElem?_eq_getElem hi]
  exact List.getElem_mem hi
structure Rw where
  n : Str
  S : List Shp
  L : List Lab
  P : List Pla
theorem MD.up : ∀ {k : Nat} {d : D}, MD k d → MD (k + 1) d
  | 0, d, h => .inl h
  | k + 1, d, h => by
    rcases h with h | ⟨es, e, h1, h2⟩
    · exact .inl h
    · exact .inr ⟨es, e, h1, fun x hx => MD.up (h2 x hx)⟩
theorem name_1000 {n : Str} (h : nameB n = true) : n.length ≤ 1000 := by have := nameB_len h; omega
def nmX (n : Str) (d : Int) : Str := ([n, "abcdefgh1234", "q"] : List Str).getD (d % 3).toNat ""
theorem nmX_ok {n : Str} {d : Int} (h : nameB n = true) : nameB (nmX n d) = true := by
  have hm := getD_mem (xs := ([n, "abcdefgh1234", "q"] : List Str)) (i := d % 3) (a := "") (by show _ ∧ _ < (3 : Int); omega)
  have hm2 : nmX n d ∈ ([n, "abcdefgh1234", "q"] : List Str) := hm
  simp only [List.mem_cons, List.not_mem_nil, or_false] at hm2
  rcases hm2 with e | e | e <;> rw [e]
  · exact h
  · decide +kernel
  · decide +kernel
def zzP (d : Int) : Pla := ⟨"zz", 7, 100000000000000000000, -5, 100, 1 + d % 100, -d, 1000000000000000⟩
theorem zzP_ok (d : Int) : plaB (zzP d) = true := by
  unfold plaB
  rw [show nameB (zzP d).n = true from (by decide +kernel : nameB "zz" = true)]
  simp only [Bool.true_and, Bool.and_eq_true, decide_eq_true_eq]
  exact ⟨⟨by show (0 : Int) ≤ 7; decide, by show (7 : Int) < 8; decide⟩, ⟨by show (1 : Int) ≤ 100; decide, by show (100 : Int) ≤ 100; decide⟩, show 1 ≤ 1 + d % 100 by omega, show 1 + d % 100 ≤ 100 by omega⟩
theorem CelOk.more {n : Str} {S : List Shp} {L : List Lab} {P : List Pla} (ok : CelOk n S L P) (d : Int) : CelOk (nmX n d) S L (P ++ [zzP d]) := ⟨nmX_ok ok.n, ok.s, ok.l, fun x hx => by
  rcases List.mem_append.mp hx with h | h
  · exact ok.p x h
  · rw [List.mem_singleton] at h; subst h; exact zzP_ok d⟩
theorem CelOk.ln {n : Str} {S : List Shp} {L : List Lab} {P : List Pla} (ok : CelOk n S L P) : ∀ v ∈ L, v.n.length ≤ 1000 := fun v hv => by
  have h := ok.l v hv
  unfold labB at h
  rw [Bool.and_eq_true] at h
  exact name_1000 h.1
end DL
namespace DL
open PySem PySem.Spec PyProof.Rows L2
theorem keys_dr {K : PySem.W.Frag} {H : Hp} : ∀ k : List Key, DRs K H (k.map kD) (k.map kV)
  | [] => rfl
  | .inl i :: k => ⟨_, _, rfl, rfl, keys_dr k⟩
  | .inr x :: k => ⟨_, _, rfl, rfl, keys_dr k⟩
end DL
namespace DL
open PySem PySem.Spec PyProof.Rows L2
abbrev PW := List (List Key × Int)
end DL
namespace DL
open PySem PySem.Spec PyProof.Rows L2
/-- a heap without some places -/
def ers (H : Hp) (as : List Addr) : Hp := fun b => if b ∈ as then none else H b
theorem ers_in {H : Hp} {as : List Addr} {b : Addr} (h : b ∈ as) : ers H as b = none := if_pos h
theorem ers_out {H : Hp} {as : List Addr} {b : Addr} (h : b ∉ as) : ers H as b = H b := if_neg h
theorem ers_sub {H : Hp} {as : List Addr} : Same (ers H as) H := fun b u e => by
  by_cases h : b ∈ as
  · rw [ers_in h] at e; cases e
  · rwa [ers_out h] at e
abbrev Cs := List (Addr × OC)
abbrev pl (cs : Cs) : List Addr := cs.map (·.1)
section
variable {K : PySem.W.Frag} {B0 B H0 H H0' H' : Hp} {σ : L2.St} {ρ : En}
/-- what a slot owns, in another order -/
theorem J.perm (j : J K B0 B σ H0 H ρ) {i : Nat} {cs cs' : Cs} {d : D} (h : ρ[i]? = some (.ox cs d)) (p : cs.Perm cs') : J K B0 B σ H0 H (ρ.set i (.ox cs' d)) := by
  obtain ⟨ov, e1, f1, f2, f3⟩ := j.get h
  exact j.setSl (s := .ox cs' d) e1 ⟨f1, fun q hq => f2 q (p.mem_iff.mpr hq), (p.map _).nodup_iff.mp f3⟩ (j.sub h e1 fun a w => by
    have w' : a ∈ cs'.map (·.1) := w
    exact (p.map (·.1)).mem_iff.mpr w')
/-- what was lent comes back -/
theorem J.back (j : J K B0 B σ H0 H ρ) {i : Nat} {cs cs2 cs' : Cs} {d : D} (h : ρ[i]? = some (.ox (cs ++ cs2) d)) (g : JH H0 (ers H (pl cs)) H0' H') (hc : ∀ p ∈ cs', CellR K (ers H (pl cs)) H0' H' p.1 p.2) (nd : (pl cs').Nodup) :
    J K B0 B σ H0' H' (ρ.set i (.ox (cs' ++ cs2) d)) := by
  obtain ⟨ov, e1, ⟨v, rfl, rv⟩, f2, f3⟩ := j.get h
  have f3' := f3
  rw [List.map_append, List.nodup_append] at f3'
  obtain ⟨n1, n2, n3⟩ := f3'
  have Bn : ∀ a, a ∈ pl cs → B a = none := fun a ha => by
    obtain ⟨p, hp, rfl⟩ := List.mem_map.mp ha
    obtain ⟨o, _, _, q, _⟩ := (f2 p (List.mem_append_left _ hp)).ex
    exact q
  have sB : Same B (ers H (pl cs)) := fun b u e => by
    rw [ers_out fun hb => by rw [Bn b hb] at e; cases e]
    exact j.hp.sB b u e
  have eN : ∀ a, ers H (pl cs) a = none → B a = none := fun a ha => by
    cases hB : B a with
    | none => rfl
    | some u => rw [sB a u hB] at ha; cases ha
  have cell : ∀ {a : Addr} {c : OC}, a ∉ pl cs → CellR K B H0 H a c → CellR K B H0' H' a c := fun {a c} na ⟨o, q1, q2, q3, q4⟩ => by
    have q5 : ers H (pl cs) a = some o := by rw [ers_out na]; exact q1
    exact ⟨o, g.sB a o q5, g.fr a o q5 q4.nt q2, q3, q4.mono g.s0⟩
  have hl : i < ρ.length := (List.getElem?_eq_some_iff.mp h).1
  have oth : ∀ {k : Nat} {s : Sl} {ok : Option V} {a : Addr}, k ≠ i → ρ[k]? = some s → σ[k]? = some ok → Owns s ok a → a ∉ pl cs := fun {k s ok a} nk h1 h2 w hm =>
    nk (j.dis k i s _ ok _ a h1 h h2 e1 w (by show a ∈ (cs ++ cs2).map (·.1); rw [List.map_append]; exact List.mem_append_left _ hm))
  refine ⟨⟨j.hp.s0.trans g.s0, g.sh, sB.trans g.sB, fun a o ha nt hb => g.fr a o (sB a o ha) nt (j.hp.fr a o ha nt hb)⟩, by simp [j.len], fun k s1 ov1 g1 g2 => ?_, fun k l s1 s2 o1 o2 b g1 g2 g3 g4 w1 w2 => ?_⟩
  · rcases set_get g1 with ⟨rfl, rfl, _⟩ | ⟨nk, g1⟩
    · rw [e1] at g2; cases g2
      refine ⟨⟨v, rfl, DR.mono g.s0 _ _ rv⟩, fun p hp => ?_, ?_⟩
      · rcases List.mem_append.mp hp with hp | hp
        · obtain ⟨o, q1, q2, q3, q4⟩ := (hc p hp).ex
          exact ⟨o, q1, q2, eN _ q3, q4⟩
        · exact cell (fun hm => n3 p.1 hm p.1 (List.mem_map.mpr ⟨p, hp, rfl⟩) rfl) (f2 p (List.mem_append_right _ hp))
      · rw [List.map_append, List.nodup_append]
        refine ⟨nd, n2, fun x hx y hy => ?_⟩
        rintro rfl
        obtain ⟨p, hp, rfl⟩ := List.mem_map.mp hx
        obtain ⟨q, hq, e⟩ := List.mem_map.mp hy
        obtain ⟨o, q1, q2, q3, q4⟩ := (hc p hp).ex
        obtain ⟨o', q1', _⟩ := (f2 q (List.mem_append_right _ hq)).ex
        rw [ers_out (fun hm => n3 p.1 hm p.1 hy rfl), ← e, q1'] at q3
        cases q3
    · have q := j.sl k s1 ov1 g1 g2
      have nb : ∀ b, Owns s1 ov1 b → b ∉ pl cs := fun b w => oth nk g1 g2 w
      cases s1 with
      | no => trivial
      | sh d => obtain ⟨v, q1, q2⟩ := q; exact ⟨v, q1, DR.mono g.s0 _ _ q2⟩
      | ow c =>
        obtain ⟨b, ob, q1, q2⟩ := q
        obtain ⟨o, r1, r2, r3, r4⟩ := cell (nb b q1) ⟨ob, q2⟩
        exact ⟨b, o, q1, r1, r2, r3, r4⟩
      | ox cs3 d3 =>
        obtain ⟨⟨v, q1, q2⟩, q3, q4⟩ := q
        exact ⟨⟨v, q1, DR.mono g.s0 _ _ q2⟩, fun p hp => cell (nb p.1 (List.mem_map.mpr ⟨p, hp, rfl⟩)) (q3 p hp), q4⟩
  · have new : ∀ {k : Nat} {s : Sl} {ok : Option V}, k ≠ i → ρ[k]? = some s → σ[k]? = some ok → Owns s ok b → b ∉ (cs' ++ cs2).map (·.1) := fun {k s ok} nk h1 h2 w hm => by
      obtain ⟨o, q1, _⟩ := j.own h1 h2 w
      have nb := oth nk h1 h2 w
      rw [List.map_append, List.mem_append] at hm
      rcases hm with hm | hm
      · obtain ⟨p, hp, rfl⟩ := List.mem_map.mp hm
        obtain ⟨_, _, _, q3, _⟩ := (hc p hp).ex
        rw [ers_out nb, q1] at q3; cases q3
      · exact nk (j.dis k i s _ ok _ b h1 h h2 e1 w (by show b ∈ (cs ++ cs2).map (·.1); rw [List.map_append]; exact List.mem_append_right _ hm))
    rcases set_get g1 with ⟨ek, es1, _⟩ | ⟨nk, g1'⟩
    · rcases set_get g2 with ⟨el, es2, _⟩ | ⟨nl, g2'⟩
      · rw [ek, el]
      · subst es1; exact absurd w1 (new nl g2' g4 w2)
    · rcases set_get g2 with ⟨el, es2, _⟩ | ⟨nl, g2'⟩
      · subst es2; exact absurd w2 (new nk g1' g3 w1)
      · exact j.dis k l s1 s2 o1 o2 b g1' g2' g3 g4 w1 w2
/-- what may be lent -/
theorem J.lent (j : J K B0 B σ H0 H ρ) {i : Nat} {cs cs2 : Cs} {d : D} (h : ρ[i]? = some (.ox (cs ++ cs2) d)) : (∀ p ∈ cs, CellR K (ers H (pl cs)) H0 H p.1 p.2) ∧ (pl cs).Nodup := by
  obtain ⟨ov, e1, ⟨v, rfl, rv⟩, f2, f3⟩ := j.get h
  rw [List.map_append, List.nodup_append] at f3
  refine ⟨fun p hp => ?_, f3.1⟩
  obtain ⟨o, q1, q2, q3, q4⟩ := (f2 p (List.mem_append_left _ hp)).ex
  exact ⟨o, q1, q2, ers_in (List.mem_map.mpr ⟨p, hp, rfl⟩), q4⟩
end
def EP (X : Cx) (ρ : En) (e : Expr) (Ψ : D → En → Prop) : Prop := ∀ B0 B σ H0 H (Q : VK), J X.K B0 B σ H0 H ρ → (∀ d ρ' v H0' H', Ψ d ρ' → Same H0 H0' → J X.K B0 B σ H0' H' ρ' → DR X.K H0' d v → Q v H') → RE X e σ H Q
/-- a new thing of its own, with cells -/
def EC (X : Cx) (ρ : En) (e : Expr) (Ψ : Addr → Cs → Prop) : Prop := ∀ B0 B σ H0 H (Q : VK), J X.K B0 B σ H0 H ρ → (∀ a cs H0' H', Ψ a cs → JH H0 H H0' H' → (∀ p ∈ cs, CellR X.K H H0' H' p.1 p.2) → (pl cs).Nodup → Q (.ref a) H') → RE X e σ H Q
section
variable {X : Cx} {ρ : En} {e : Expr} {pos : Pos} {d : D} {Φ : Out → Prop} {Ψ : D → En → Prop}
theorem ep_mono {Ψ' : D → En → Prop} (h : EP X ρ e Ψ) (q : ∀ d ρ', Ψ d ρ' → Ψ' d ρ') : EP X ρ e Ψ' := fun B0 B σ H0 H Q j k => h B0 B σ H0 H Q j fun d ρ' v H0' H' w => k d ρ' v H0' H' (q d ρ' w)
theorem ws_exprP (he : EP X ρ e Ψ) (hΦ : ∀ d ρ', Ψ d ρ' → Φ (.nx ρ')) (hs : swapsWith e none pos.line X.env = pure false := by rfl) : WS X (.Expr e pos) ρ Φ := fun B0 B σ H0 H Dn j k =>
  ⟨_, ps_expr pe_star hs, he B0 B σ H0 H _ j fun d ρ' v H0' H' w s1 j1 r => k _ (hΦ d ρ' w) σ H0' H' j1⟩
/-- x = a new thing with cells -/
theorem ws_setC (i : Nat) {x : Str} {pos' : Pos} {Ψ : Addr → Cs → Prop} (hN : X.N.Nodup) (he : EC X ρ e Ψ) (hΦ : ∀ a cs, Ψ a cs → Φ (.nx (ρ.set i (.ox cs (.ad a))))) (hi : X.N[i]? = some x := by rfl) (hx : Loc X.env.scope x := by first | exact Or.inl rfl | exact Or.inr rfl)
    (hs : swapsWith e (some (.Name x pos')) pos.line X.env = pure false := by rfl) (hf : X.fn x = true ∨ X.env.scope.names.lookup x = some .local := by first | exact .inl rfl | exact .inr rfl) : WS X (.Assign [.Name x pos'] e pos) ρ Φ := fun B0 B σ H0 H Dn j k =>
  ⟨_, ps_set hN hi hx pe_star hs hf, he B0 B σ H0 H _ j fun a cs H0' H' w g hc nd => by
    refine k _ (hΦ a cs w) _ H0' H' ((j.grow g).setTo (s := .ox cs (.ad a)) (ov := some (.ref a)) ⟨⟨_, rfl, rfl⟩, fun p hp => ?_, nd⟩ fun b w k s' ov' nk h1 h2 w2 => ?_)
    · obtain ⟨o, q1, q2, q3, q4⟩ := (hc p hp).ex
      exact ⟨o, q1, q2, j.hp.sB.free q3, q4⟩
    · have w' : b ∈ pl cs := w
      obtain ⟨p, hp, rfl⟩ := List.mem_map.mp w'
      obtain ⟨_, _, _, q3, _⟩ := (hc p hp).ex
      obtain ⟨o, q1, _⟩ := j.own h1 h2 w2
      rw [q3] at q1; cases q1⟩
/-- return e, with what slot 0 owns -/
theorem ws_retC (i : Nat) {cs : Cs} {d0 : D} (h : ED X ρ e d) (hi : ρ[i]? = some (.ox cs d0)) (hΦ : Φ (.rc d cs)) : WS X (.Return (some e) pos) ρ Φ := fun B0 B σ H0 H Dn j k =>
  ⟨_, ps_ret pe_star, h B0 B σ H0 H _ j fun v H0' H' g r => by
    obtain ⟨ov, e1, _, f2, f3⟩ := (j.grow g).get hi
    exact k _ hΦ v H0' H' (j.hp.trans g) f2 f3 r⟩
theorem ws_retCP (i : Nat) (h : EP X ρ e Ψ) (hΦ : ∀ d ρ', Ψ d ρ' → ∃ cs d0, ρ'[i]? = some (.ox cs d0) ∧ Φ (.rc d cs)) : WS X (.Return (some e) pos) ρ Φ := fun B0 B σ H0 H Dn j k =>
  ⟨_, ps_ret pe_star, h B0 B σ H0 H _ j fun d ρ' v H0' H' w s1 j1 r => by
    obtain ⟨cs, d0, hi, hΦ⟩ := hΦ d ρ' w
    obtain ⟨ov, e1, _, f2, f3⟩ := j1.get hi
    exact k _ hΦ v H0' H' j1.hp f2 f3 r⟩
end
/-- R: the place of the first argument, what is lent, the other arguments, what comes back and the result -/
abbrev RLnt := Addr → Cs → List D → (Cs → D → Prop) → Prop
def spL (K : PySem.W.Frag) (R : RLnt) : Sp := fun vs H Q _ => ∃ H0 a cs ds ws Ψ, vs = .ref a :: ws ∧ Same H0 H ∧ (∀ p ∈ cs, CellR K (ers H (pl cs)) H0 H p.1 p.2) ∧ (pl cs).Nodup ∧ DRs K H0 ds ws ∧ R a cs ds Ψ ∧
  ∀ cs' d v H0' H', Ψ cs' d → JH H0 (ers H (pl cs)) H0' H' → (∀ p ∈ cs', CellR K (ers H (pl cs)) H0' H' p.1 p.2) → (pl cs').Nodup → DR K H0' d v → Q v H'
def enL (N : List Str) (cs : Cs) (a : Addr) (ds : List D) : En := .ox cs (.ad a) :: (ds.map Sl.sh ++ List.replicate (N.length - (ds.length + 1)) Sl.no)
section
variable {P : Program} {w : World} {K : PySem.W.Frag} {mg : Str → Option Value} {base : Heap}
theorem j_startL {N : List Str} {B H0 H : Hp} {a : Addr} {cs : Cs} {ds : List D} {vs : List V} (s : Same H0 H) (sB : Same B H) (hc : ∀ p ∈ cs, CellR K B H0 H p.1 p.2) (nd : (pl cs).Nodup) (r : DRs K H0 ds vs) (hl : ds.length + 1 ≤ N.length) : J K H0 B (L2.start N (.ref a :: vs)) H0 H (enL N cs a ds) := by
  have hlen := DRs.length r
  have kind : ∀ (i : Nat) s, (enL N cs a ds)[i]? = some s → i = 0 ∨ s = .no ∨ ∃ d, s = .sh d := fun i s h => by
    cases i with
    | zero => exact .inl rfl
    | succ i =>
      refine .inr ?_
      unfold enL at h
      rw [List.getElem?_cons_succ] at h
      by_cases hi : i < ds.length
      · rw [List.getElem?_append_left (by simpa using hi), List.getElem?_map, show ds[i]? = some ds[i] by simp [hi]] at h
        cases h; exact .inr ⟨_, rfl⟩
      · rw [List.getElem?_append_right (by simp; omega), List.getElem?_replicate] at h
        split at h
        · cases h; exact .inl rfl
        · cases h
  refine ⟨⟨Same.refl _, s, sB, fun b o e _ h => h⟩, by simp [L2.start, enL, hlen], fun i sl ov h1 h2 => ?_, fun i j s1 s2 o1 o2 b h1 h2 _ _ w1 w2 => ?_⟩
  · cases i with
    | zero =>
      unfold enL at h1
      unfold L2.start at h2
      simp only [List.getElem?_cons_zero, Option.some.injEq, List.map_cons, List.cons_append] at h1 h2
      subst h1; subst h2
      exact ⟨⟨_, rfl, rfl⟩, hc, nd⟩
    | succ i =>
      unfold enL at h1
      unfold L2.start at h2
      simp only [List.getElem?_cons_succ, List.map_cons, List.cons_append] at h1 h2
      by_cases hi : i < ds.length
      · rw [List.getElem?_append_left (by simpa using hi), List.getElem?_map] at h1
        rw [List.getElem?_append_left (by simp; omega), List.getElem?_map] at h2
        obtain ⟨v, e1, e2⟩ := DRs.get r (show ds[i]? = some ds[i] by simp [hi])
        rw [show ds[i]? = some ds[i] by simp [hi]] at h1
        rw [e1] at h2
        cases h1; cases h2
        exact ⟨v, rfl, e2⟩
      · rw [List.getElem?_append_right (by simp; omega), List.getElem?_replicate] at h1
        split at h1
        · cases h1; trivial
        · cases h1
  · rcases kind i s1 h1 with e1 | e1
    · rcases kind j s2 h2 with e2 | e2
      · rw [e1, e2]
      · exact absurd w2 (Owns.none e2 b)
    · exact absurd w1 (Owns.none e1 b)
theorem fn_okL {x qual : Str} {st : Stmt} {f : Addr} {fd : FuncData} {N ps : List Str} {k : Nat} {R : RLnt} (F : Fun K x qual st f fd) (S : FnScope N ps (defScope st)) (hR : ∀ a cs ds Ψ, R a cs ds Ψ → ds.length + 1 = ps.length)
    (h : ∀ a cs ds Ψ, R a cs ds Ψ → ∀ (cdv : Value) (A : Around) (outer : List Env) (s : Shared) (H : Hp) (E : XK), Room k (A.deeper (envOfC qual (defScope st) s.heap.objs.size f cdv)) →
      WSs (bx P w K mg base N qual st f cdv A outer s H E) (defBody st) (enL N cs a ds) (fun o => (∃ d cs', o = .rc d cs' ∧ Ψ cs' d) ∨ (∃ ρ cs' d0, o = .nx ρ ∧ ρ[0]? = some (.ox cs' d0) ∧ Ψ cs' .non))) : FnOk P w K mg base CX0 (k + 1) f fd ps (spL K R) := by
  refine F.ok S (fun vs H Q E hs => ?_) fun cdv A outer s H vs Q E hr hs => ?_
  · obtain ⟨H0, a, cs, ds, ws, Ψ, rfl, s0, hc, nd, r, q, _⟩ := hs
    rw [List.length_cons, ← DRs.length r]; exact hR a cs ds Ψ q
  · obtain ⟨H0, a, cs, ds, ws, Ψ, rfl, s0, hc, nd, r, q, kk⟩ := hs
    have hN : ds.length + 1 ≤ N.length := by
      have h1 := hR a cs ds Ψ q
      have h2 := congrArg List.length S.pre
      rw [List.length_take] at h2
      omega
    obtain ⟨t, h1, h2⟩ := h a cs ds Ψ q cdv A outer s H E hr H0 (ers H (pl cs)) (L2.start N (.ref a :: ws)) H0 H (j_startL s0 ers_sub hc nd r hN) (Dn := { nx := fun _ H' => Q .non H', rt := Q }) fun o ho => by
      rcases ho with ⟨d, cs', rfl, w⟩ | ⟨ρ, cs', d0, rfl, hρ, w⟩
      · intro v G0 G g gc gn gd
        exact kk cs' d v G0 G w g gc gn gd
      · intro σ G0 G j
        obtain ⟨ov, e1, _, f2, f3⟩ := j.get hρ
        exact kk cs' .non .non G0 G w j.hp f2 f3 rfl
    exact ⟨t, h1, h2⟩
/-- a method that is lent its instance -/
structure FnML (P : Program) (w : World) (K : PySem.W.Frag) (mg : Str → Option Value) (base : Heap) (cn m : Str) (k : Nat) (R : RLnt) : Prop where
  ex : ∃ C f fd ps, PySem.W.nsIn K mainGlobals cn = some (some (.ref C)) ∧ Cls K C ∧ Meth K C m f ∧ FnOk P w K mg base CX0 k f fd ps (spL K R) ∧ Binds K fd ps []
end
section
variable {X : Cx} {ρ : En} {o e : Expr} {pos apos : Pos} {cn m : Str} {k : Nat} {R : RLnt} {es : List Expr} {ds fds : List D} {ns : List Str} {d0 : D} {pl' : Sem Bool}
/-- o.m(e, ..), o an instance that slot i owns -/
theorem ep_meth (i : Nat) {a : Addr} {cs cs2 : Cs} {Ψ : Cs → D → Prop} (G : FnML X.prog X.w X.K X.mg X.base cn m k R) (hr : Room k X.A) (hi : ρ[i]? = some (.ox (cs ++ cs2) d0)) (hm : (a, OC.ins cn ns fds) ∈ cs) (ho : ED X ρ o (.ad a)) (ha : AD X ρ (e :: es) ds) (hR : R a cs ds Ψ)
    (hnm : ns.contains m = false := by decide +kernel)
    (hst : starEach (e :: es) X.env = (false, eval e X.env) :: starEach es X.env := by rfl) (hpl : (backTo pos (starEach es X.env)).any (·.1) = false := by rfl)
    (ht : eval (.Call (.Attribute o m apos) (e :: es) [] pos) X.env = (do
      let ov ← eval o X.env
      standAt apos.atName
      let (f, first) ← holding [ov] (getMethod ov m pl')
      callWith pos f first (backTo pos (starEach (e :: es) X.env)) (backToKw pos (keywordEach [] X.env))) := by rfl) :
    EP X ρ (.Call (.Attribute o m apos) (e :: es) [] pos) (fun d ρ' => ∃ cs', Ψ cs' d ∧ ρ' = ρ.set i (.ox (cs' ++ cs2) d0)) := fun B0 B σ H0 H Q j kk => by
  obtain ⟨C, f, fd, ps, hC, hc, hmt, F, hb⟩ := G.ex
  refine RE.of (pe_meth (E := E0) pe_star hc hmt F hr hb .nil pass0 pa_star hst hpl ht) (ho B0 B σ H0 H _ j fun v G0 G g r => ?_)
  cases (show v = .ref a from r)
  have j1 := j.grow g
  obtain ⟨u, h1, _, _, vs, C', dx, rfl, hC', hlen, hvs⟩ := j1.cell hi (List.mem_append_left _ hm)
  rw [hC] at hC'; cases hC'
  refine ⟨a, dx, _, rfl, h1, zip_none hnm, ha B0 B σ G0 G _ j1 fun ws L0 L g2 r2 => ?_⟩
  rw [List.append_nil]
  have j2 := j1.grow g2
  obtain ⟨lc, ln⟩ := j2.lent hi
  exact ⟨L0, a, cs, ds, ws, Ψ, rfl, g2.sh, lc, ln, r2, hR, fun cs' d v M0 M w g3 c3 n3 r3 => kk d _ v M0 M ⟨cs', w, rfl⟩ ((g.s0.trans g2.s0).trans g3.s0) (j2.back hi g3 c3 n3) r3⟩
theorem ep_meth0 (i : Nat) {a : Addr} {cs cs2 : Cs} {Ψ : Cs → D → Prop} (G : FnML X.prog X.w X.K X.mg X.base cn m k R) (hr : Room k X.A) (hi : ρ[i]? = some (.ox (cs ++ cs2) d0)) (hm : (a, OC.ins cn ns fds) ∈ cs) (ho : ED X ρ o (.ad a)) (hR : R a cs [] Ψ)
    (hnm : ns.contains m = false := by decide +kernel)
    (ht : eval (.Call (.Attribute o m apos) [] [] pos) X.env = (do
      let ov ← eval o X.env
      standAt apos.atName
      let (f, first) ← holding [ov] (getMethod ov m pl')
      callWith pos f first (backTo pos (starEach [] X.env)) (backToKw pos (keywordEach [] X.env))) := by rfl) :
    EP X ρ (.Call (.Attribute o m apos) [] [] pos) (fun d ρ' => ∃ cs', Ψ cs' d ∧ ρ' = ρ.set i (.ox (cs' ++ cs2) d0)) := fun B0 B σ H0 H Q j kk => by
  obtain ⟨C, f, fd, ps, hC, hc, hmt, F, hb⟩ := G.ex
  refine RE.of (pe_meth0 (E := E0) pe_star hc hmt F hr hb .nil pass0 ht) (ho B0 B σ H0 H _ j fun v G0 G g r => ?_)
  cases (show v = .ref a from r)
  have j1 := j.grow g
  obtain ⟨u, h1, _, _, vs, C', dx, rfl, hC', hlen, hvs⟩ := j1.cell hi (List.mem_append_left _ hm)
  rw [hC] at hC'; cases hC'
  refine ⟨a, dx, _, rfl, h1, zip_none hnm, ?_⟩
  obtain ⟨lc, ln⟩ := j1.lent hi
  exact ⟨G0, a, cs, [], [], Ψ, rfl, g.sh, lc, ln, rfl, hR, fun cs' d v M0 M w g3 c3 n3 r3 => kk d _ v M0 M ⟨cs', w, rfl⟩ (g.s0.trans g3.s0) (j1.back hi g3 c3 n3) r3⟩
/-- .. all of the slot lent -/
theorem ep_methW (i : Nat) {a : Addr} {cs : Cs} {Ψ : Cs → D → Prop} (G : FnML X.prog X.w X.K X.mg X.base cn m k R) (hr : Room k X.A) (hi : ρ[i]? = some (.ox cs d0)) (hm : (a, OC.ins cn ns fds) ∈ cs) (ho : ED X ρ o (.ad a)) (ha : AD X ρ (e :: es) ds) (hR : R a cs ds Ψ)
    (hnm : ns.contains m = false := by decide +kernel)
    (hst : starEach (e :: es) X.env = (false, eval e X.env) :: starEach es X.env := by rfl) (hpl : (backTo pos (starEach es X.env)).any (·.1) = false := by rfl)
    (ht : eval (.Call (.Attribute o m apos) (e :: es) [] pos) X.env = (do
      let ov ← eval o X.env
      standAt apos.atName
      let (f, first) ← holding [ov] (getMethod ov m pl')
      callWith pos f first (backTo pos (starEach (e :: es) X.env)) (backToKw pos (keywordEach [] X.env))) := by rfl) :
    EP X ρ (.Call (.Attribute o m apos) (e :: es) [] pos) (fun d ρ' => ∃ cs', Ψ cs' d ∧ ρ' = ρ.set i (.ox cs' d0)) :=
  ep_mono (ep_meth i (cs := cs) (cs2 := []) (d0 := d0) G hr (by rw [List.append_nil]; exact hi) hm ho ha hR hnm hst hpl ht) fun d ρ' ⟨cs', w, e⟩ => ⟨cs', w, by rw [e, List.append_nil]⟩
theorem ep_meth0W (i : Nat) {a : Addr} {cs : Cs} {Ψ : Cs → D → Prop} (G : FnML X.prog X.w X.K X.mg X.base cn m k R) (hr : Room k X.A) (hi : ρ[i]? = some (.ox cs d0)) (hm : (a, OC.ins cn ns fds) ∈ cs) (ho : ED X ρ o (.ad a)) (hR : R a cs [] Ψ)
    (hnm : ns.contains m = false := by decide +kernel)
    (ht : eval (.Call (.Attribute o m apos) [] [] pos) X.env = (do
      let ov ← eval o X.env
      standAt apos.atName
      let (f, first) ← holding [ov] (getMethod ov m pl')
      callWith pos f first (backTo pos (starEach [] X.env)) (backToKw pos (keywordEach [] X.env))) := by rfl) :
    EP X ρ (.Call (.Attribute o m apos) [] [] pos) (fun d ρ' => ∃ cs', Ψ cs' d ∧ ρ' = ρ.set i (.ox cs' d0)) :=
  ep_mono (ep_meth0 i (cs := cs) (cs2 := []) (d0 := d0) G hr (by rw [List.append_nil]; exact hi) hm ho hR hnm ht) fun d ρ' ⟨cs', w, e⟩ => ⟨cs', w, by rw [e, List.append_nil]⟩
end
abbrev RIL := Addr → List D → (Cs → Prop) → Prop
def spIL (K : PySem.W.Frag) (cn : Str) (R : RIL) : Sp := fun vs H Q _ => ∃ H0 a C dx ds ws Ψ, vs = .ref a :: ws ∧ PySem.W.nsIn K mainGlobals cn = some (some (.ref C)) ∧ Same H0 H ∧ H a = some (.ins C dx []) ∧ H0 a = none ∧ DRs K H0 ds ws ∧ R a ds Ψ ∧
  ∀ cs' H0' H', Ψ cs' → JH H0 (er H a) H0' H' → (∀ p ∈ cs', CellR K (er H a) H0' H' p.1 p.2) → (pl cs').Nodup → Q .non H'
section
variable {P : Program} {w : World} {K : PySem.W.Frag} {mg : Str → Option Value} {base : Heap}
theorem fn_okIL {x qual : Str} {st : Stmt} {f : Addr} {fd : FuncData} {N ps : List Str} {k : Nat} {cn : Str} {R : RIL} (F : Fun K x qual st f fd) (S : FnScope N ps (defScope st)) (hR : ∀ a ds Ψ, R a ds Ψ → ds.length + 1 = ps.length)
    (h : ∀ a ds Ψ, R a ds Ψ → ∀ (cdv : Value) (A : Around) (outer : List Env) (s : Shared) (H : Hp) (E : XK), Room k (A.deeper (envOfC qual (defScope st) s.heap.objs.size f cdv)) →
      WSs (bx P w K mg base N qual st f cdv A outer s H E) (defBody st) (enI N a cn ds) (fun o => ∃ ρ cs' d0, o = .nx ρ ∧ ρ[0]? = some (.ox cs' d0) ∧ Ψ cs')) : FnOk P w K mg base CX0 (k + 1) f fd ps (spIL K cn R) := by
  refine F.ok S (fun vs H Q E hs => ?_) fun cdv A outer s H vs Q E hr hs => ?_
  · obtain ⟨H0, a, C, dx, ds, ws, Ψ, rfl, hC, s0, ha, h0, r, q, _⟩ := hs
    rw [List.length_cons, ← DRs.length r]; exact hR a ds Ψ q
  · obtain ⟨H0, a, C, dx, ds, ws, Ψ, rfl, hC, s0, ha, h0, r, q, kk⟩ := hs
    have hN : ds.length + 1 ≤ N.length := by
      have h1 := hR a ds Ψ q
      have h2 := congrArg List.length S.pre
      rw [List.length_take] at h2
      omega
    obtain ⟨t, h1, h2⟩ := h a ds Ψ q cdv A outer s H E hr H0 (er H a) (L2.start N (.ref a :: ws)) H0 H (j_startI s0 hC ha h0 r hN) (Dn := { nx := fun _ H' => Q .non H', rt := Q }) fun o ho => by
      obtain ⟨ρ, cs', d0, rfl, hρ, w⟩ := ho
      intro σ G0 G j
      obtain ⟨ov, e1, _, f2, f3⟩ := j.get hρ
      exact kk cs' G0 G w j.hp f2 f3
    exact ⟨t, h1, h2⟩
structure FnIL (P : Program) (w : World) (K : PySem.W.Frag) (mg : Str → Option Value) (base : Heap) (cn : Str) (k : Nat) (R : RIL) : Prop where
  ex : ∃ C f fd ps, PySem.W.nsIn K mainGlobals cn = some (some (.ref C)) ∧ mg cn = some (.ref C) ∧ Mk K C f ∧ FnOk P w K mg base CX0 k f fd ps (spIL K cn R) ∧ Binds K fd ps []
end
section
variable {X : Cx} {ρ : En} {e : Expr} {pos : Pos} {cn f : Str} {ns fs : List Str} {ds : List D} {d : D}
/-- e.f, e an instance that slot s owns -/
theorem ed_fldC (s i : Nat) {a : Addr} {cs : Cs} {d0 : D} (kl : Kl X.K X.mg cn fs) (hρ : ρ[s]? = some (.ox cs d0)) (hm : (a, OC.ins cn ns ds) ∈ cs) (he : ED X ρ e (.ad a)) (hn : ns[i]? = some f := by rfl) (hd : ds[i]? = some d := by rfl) (hu : (ns.take i).contains f = false := by decide +kernel) (hf : f ∈ fs := by decide +kernel)
    (hb : attributeBase e f X.env (eval e X.env) = eval e X.env := by rfl) : ED X ρ (.Attribute e f pos) d := fun B0 B σ H0 H Q j k => by
  refine RE.of (pe_fld pe_star hb) (he B0 B σ H0 H _ j fun v G0 G g r => ?_)
  cases (show v = .ref a from r)
  obtain ⟨o, h1, h2, h3, vs, C, dx, rfl, hC, hlen, hvs⟩ := (j.grow g).cell hρ hm
  obtain ⟨C', hC', hmc, hc, hk, hna⟩ := kl.ex
  rw [hC] at hC'; cases hC'
  obtain ⟨v, hv', rv⟩ := DRs.get hvs hd
  exact ⟨a, C, dx, _, v, rfl, h1, hc.cl, hna f hf, zip_at hn hu hv', k v G0 G g rv⟩
theorem putC_hd {a : Addr} {c c' : OC} {cs : Cs} (nd : (pl ((a, c) :: cs)).Nodup) : putC ((a, c) :: cs) a c' = (a, c') :: cs := by
  unfold putC
  simp only [List.map_cons, if_pos]
  congr 1
  conv => rhs; rw [← List.map_id cs]
  refine List.map_congr_left fun p hp => ?_
  have : p.1 ≠ a := fun z => (List.nodup_cons.mp nd).1 (z ▸ List.mem_map.mpr ⟨p, hp, rfl⟩)
  rw [if_neg this]; rfl
/-- self.f = e, a new field of shared data -/
theorem ws_setFC (s : Nat) {a : Addr} {x : Str} {p pos' : Pos} {value : Expr} {cs : Cs} {Φ : Out → Prop} (kl : Kl X.K X.mg cn fs) (hρ : ρ[s]? = some (.ox ((a, .ins cn ns ds) :: cs) (.ad a))) (hv : ED X ρ value d) (hΦ : Φ (.nx (ρ.set s (.ox ((a, .ins cn (ns ++ [f]) (ds ++ [d])) :: cs) (.ad a)))))
    (hnew : ns.contains f = false := by decide +kernel) (hf : f ∈ fs := by decide +kernel) (hlt : ns.length < 1000 := by decide)
    (hN : X.N[s]? = some x := by rfl) (hvis : Vis X.env.scope x := by first | exact Or.inl rfl | exact Or.inr (Or.inl rfl) | exact Or.inr (Or.inr rfl)) (hdb : (x == ("__debug__" : Str)) = false := by decide) (hcd : (x == ("__classdict__" : Str)) = false := by decide)
    (hs : swapsWith value (some (.Attribute (.Name x p) f pos')) pos.line X.env = pure false := by rfl) : WS X (.Assign [.Attribute (.Name x p) f pos'] value pos) ρ Φ := fun B0 B σ H0 H Dn j k => by
  refine ⟨_, ps_fld (pe_var hN hvis hdb hcd) pe_star hs, hv B0 B σ H0 H _ j fun v G0 G g r => ?_⟩
  have j1 := j.grow g
  obtain ⟨ov, e1, ⟨v1, rfl, rv⟩, hcs, nd⟩ := j1.get hρ
  cases (show v1 = .ref a from rv)
  obtain ⟨o, h1, h2, h3, vs, C, dx, rfl, hC, hlen, hvs⟩ := (hcs _ (List.mem_cons_self ..)).ex
  obtain ⟨C', hC', hm, hc, hk, hna⟩ := kl.ex
  rw [hC] at hC'; cases hC'
  have hl : (ns.zip vs).length < 1000 := by rw [List.length_zip]; omega
  refine ⟨_, e1, a, C, dx, _, rfl, h1, hc.cl, hna f hf, hl, ?_⟩
  rw [putF_new hnew hlen]
  have j2 := j1.put (c' := .ins cn (ns ++ [f]) (ds ++ [d])) (o := .ins C dx ((ns ++ [f]).zip (vs ++ [v]))) hρ (List.mem_cons_self ..) ⟨vs ++ [v], C, dx, rfl, hC, by simp [hlen], DRs.app hvs (DRs.one r)⟩
  rw [putC_hd nd] at j2
  exact k _ hΦ _ _ _ j2
/-- self.f = e, a new field with a new thing -/
theorem ws_setFO (s : Nat) {a : Addr} {x : Str} {p pos' : Pos} {value : Expr} {cs : Cs} {c : OC} {Φ : Out → Prop} (kl : Kl X.K X.mg cn fs) (hρ : ρ[s]? = some (.ox ((a, .ins cn ns ds) :: cs) (.ad a))) (hv : EO X ρ value c) (hΦ : ∀ q, Φ (.nx (ρ.set s (.ox ((a, .ins cn (ns ++ [f]) (ds ++ [.ad q])) :: (cs ++ [(q, c)])) (.ad a)))))
    (hnew : ns.contains f = false := by decide +kernel) (hf : f ∈ fs := by decide +kernel) (hlt : ns.length < 1000 := by decide)
    (hN : X.N[s]? = some x := by rfl) (hvis : Vis X.env.scope x := by first | exact Or.inl rfl | exact Or.inr (Or.inl rfl) | exact Or.inr (Or.inr rfl)) (hdb : (x == ("__debug__" : Str)) = false := by decide) (hcd : (x == ("__classdict__" : Str)) = false := by decide)
    (hs : swapsWith value (some (.Attribute (.Name x p) f pos')) pos.line X.env = pure false := by rfl) : WS X (.Assign [.Attribute (.Name x p) f pos'] value pos) ρ Φ := fun B0 B σ H0 H Dn j k => by
  refine ⟨_, ps_fld (pe_var hN hvis hdb hcd) pe_star hs, hv B0 B σ H0 H _ j fun q oq G0 G g q1 q2 q3 q4 => ?_⟩
  have j1 := j.more g hρ q1 q2 q3 q4
  have hlt' : s < ρ.length := (List.getElem?_eq_some_iff.mp hρ).1
  obtain ⟨ov, e1, ⟨v1, rfl, rv⟩, hcs, nd⟩ := j1.get (i := s) (s := .ox ((a, .ins cn ns ds) :: (cs ++ [(q, c)])) (.ad a)) (by rw [List.getElem?_set_self hlt']; rfl)
  cases (show v1 = .ref a from rv)
  obtain ⟨o, h1, h2, h3, vs, C, dx, rfl, hC, hlen, hvs⟩ := (hcs _ (List.mem_cons_self ..)).ex
  obtain ⟨C', hC', hm, hc, hk, hna⟩ := kl.ex
  rw [hC] at hC'; cases hC'
  have hl : (ns.zip vs).length < 1000 := by rw [List.length_zip]; omega
  refine ⟨_, e1, a, C, dx, _, rfl, h1, hc.cl, hna f hf, hl, ?_⟩
  rw [putF_new hnew hlen]
  have j2 := j1.put (i := s) (cs := (a, .ins cn ns ds) :: (cs ++ [(q, c)])) (d := .ad a) (c' := .ins cn (ns ++ [f]) (ds ++ [.ad q])) (o := .ins C dx ((ns ++ [f]).zip (vs ++ [.ref q]))) (by rw [List.getElem?_set_self hlt']; rfl) (List.mem_cons_self ..) ⟨vs ++ [.ref q], C, dx, rfl, hC, by simp [hlen], DRs.app hvs (DRs.one (d := .ad q) (v := V.ref q) rfl)⟩
  rw [putC_hd nd, List.set_set] at j2
  exact k _ (hΦ q) _ _ _ j2
/-- a cell of a field is given to all -/
theorem ws_shareF (s i : Nat) {a q : Addr} {c : OC} {cs : Cs} {rest : List Stmt} {Φ : Out → Prop} (hρ : ρ[s]? = some (.ox ((a, .ins cn ns ds) :: (q, c) :: cs) (.ad a))) (hd : ds[i]? = some (.ad q)) (h : WSs X rest (ρ.set s (.ox ((a, .ins cn ns (ds.set i c.d)) :: cs) (.ad a))) Φ) : WSs X rest ρ Φ := fun B0 B σ H0 H Dn j k => by
  obtain ⟨ov, e1, ⟨v1, rfl, rv⟩, hcs, nd⟩ := j.get hρ
  cases (show v1 = .ref a from rv)
  have nd' : a ≠ q ∧ a ∉ pl cs ∧ q ∉ pl cs ∧ (pl cs).Nodup := by
    have h1 := nd
    simp only [List.map_cons, List.nodup_cons, List.mem_cons, not_or] at h1
    exact ⟨h1.1.1, h1.1.2, h1.2.1, h1.2.2⟩
  obtain ⟨o, h1, h2, h3, vs, C, dx, rfl, hC, hlen, hvs⟩ := (hcs _ (List.mem_cons_self ..)).ex
  obtain ⟨oq, q1, q2, q3, q4⟩ := (hcs (q, c) (List.mem_cons_of_mem _ (List.mem_cons_self ..))).ex
  have s0 : Same H0 (upd H0 q oq) := fun b u e => upd_keep e (fun z => by subst z; rw [q2] at e; cases e)
  obtain ⟨v, hv, rv'⟩ := DRs.get hvs hd
  cases (show v = .ref q from rv')
  obtain ⟨j1, _⟩ := j.shareAt (a := q) (c := c) (o := oq) (s' := .ox ((a, .ins cn ns (ds.set i c.d)) :: cs) (.ad a)) hρ e1 (by show q ∈ _; simp) q1 q4 (fun b w => by
    have w' : b ∈ pl ((a, OC.ins cn ns (ds.set i c.d)) :: cs) := w
    simp only [pl, List.map_cons, List.mem_cons] at w'
    rcases w' with rfl | w'
    · exact ⟨by show b ∈ _; simp, nd'.1⟩
    · exact ⟨by show b ∈ _; simp only [List.map_cons, List.mem_cons]; exact .inr (.inr w'), fun z => nd'.2.2.1 (z ▸ w')⟩) fun r => ⟨⟨_, rfl, rfl⟩, fun p hp => by
      rcases List.mem_cons.mp hp with rfl | hp
      · refine ⟨_, h1, by rw [upd_ne nd'.1]; exact h2, h3, vs, C, dx, rfl, hC, hlen, ?_⟩
        have e := DRs.set r i (DRs.mono s0 _ _ hvs)
        have ev : vs.set i (.ref q) = vs := by
          refine List.ext_getElem? fun m => ?_
          by_cases hm : m = i
          · subst hm
            rw [List.getElem?_set_self (List.getElem?_eq_some_iff.mp hv).1, hv]
          · rw [List.getElem?_set_ne (Ne.symm hm)]
        rw [ev] at e
        exact e
      · obtain ⟨o, f1, f2, f3, f4⟩ := (hcs p (List.mem_cons_of_mem _ (List.mem_cons_of_mem _ hp))).ex
        exact ⟨o, f1, by rw [upd_ne (fun z => nd'.2.2.1 (by rw [← z]; exact List.mem_map.mpr ⟨p, hp, rfl⟩))]; exact f2, f3, f4.mono s0⟩, by simp only [List.map_cons, List.nodup_cons]; exact ⟨nd'.2.1, nd'.2.2.2⟩⟩
  exact h B0 B σ _ H Dn j1 k
end
end DL
namespace DL
open PySem PySem.Spec PyProof.Rows L2
/-- what stands at a key -/
def lookK : List Key → List D → Key → Option D
  | k0 :: ks, d :: ds, k => if k0 = k then some d else lookK ks ds k
  | _, _, _ => none
theorem lookK_val {K : PySem.W.Frag} {H : Hp} {k : Key} : ∀ {ks : List Key} {ds : List D} {vs : List V} {d : D}, DRs K H ds vs → lookK ks ds k = some d → ∃ v, valV (ks.zip vs) k = some v ∧ DR K H d v
  | [], ds, vs, d, h, e => by simp [lookK] at e
  | k0 :: ks, [], vs, d, h, e => by simp [lookK] at e
  | k0 :: ks, d0 :: ds, vs, d, h, e => by
    obtain ⟨v, r, rfl, h1, h2⟩ := h
    by_cases q : k0 = k
    · rw [lookK, if_pos q] at e; cases e
      exact ⟨v, by rw [List.zip_cons_cons]; exact valV_pos q, h1⟩
    · rw [lookK, if_neg q] at e
      obtain ⟨u, e1, e2⟩ := lookK_val h2 e
      exact ⟨u, by rw [List.zip_cons_cons, valV_neg (p := (k0, v)) q]; exact e1, e2⟩
def hasK (ks : List Key) (k : Key) : Bool := ks.any fun j => decide (j = k)
theorem hasK_iff {ks : List Key} {k : Key} : hasK ks k = true ↔ k ∈ ks := by
  unfold hasK
  rw [List.any_eq_true]
  exact ⟨fun ⟨j, h1, h2⟩ => of_decide_eq_true h2 ▸ h1, fun h => ⟨k, h, decide_eq_true rfl⟩⟩
theorem lookK_has {k : Key} : ∀ {ks : List Key} {ds : List D} {d : D}, lookK ks ds k = some d → hasK ks k = true
  | [], ds, d, e => by simp [lookK] at e
  | k0 :: ks, [], d, e => by simp [lookK] at e
  | k0 :: ks, d0 :: ds, d, e => by
    by_cases q : k0 = k
    · simp [hasK, q]
    · rw [lookK, if_neg q] at e
      have := lookK_has e
      unfold hasK at this ⊢
      rw [List.any_cons, this, Bool.or_true]
theorem lookK_isSome {K : PySem.W.Frag} {H : Hp} {k : Key} : ∀ {ks : List Key} {ds : List D} {vs : List V}, ks.length = vs.length → DRs K H ds vs → (valV (ks.zip vs) k).isSome = hasK ks k
  | [], ds, vs, _, h => by simp [valV, hasK]
  | k0 :: ks, [], vs, l, h => by cases (show vs = [] from h); simp at l
  | k0 :: ks, d0 :: ds, vs, l, h => by
    obtain ⟨v, r, rfl, h1, h2⟩ := h
    rw [List.zip_cons_cons]
    by_cases q : k0 = k
    · rw [valV_pos (p := (k0, v)) q]; simp [q, hasK]
    · rw [valV_neg (p := (k0, v)) q, lookK_isSome (by simpa using l) h2]
      simp [hasK, q]
section
variable {X : Cx} {ρ : En} {Φ : Out → Prop} {e a b o : Expr} {pos : Pos} {d : D} {rest : List Stmt}
/-- d[k], d a shared dict -/
theorem ed_dix {ks : List Key} {ds : List D} {k0 : Key} (hu : X.A.units + 64 < cLine) (ho : ED X ρ o (.dk ks ds)) (he : ED X ρ e (kD k0)) (h : lookK ks ds k0 = some d) (hs : NoSl e := by exact fun _ _ => rfl) : ED X ρ (.Subscript o e pos) d := fun B0 B σ H0 H Q j kk => by
  refine RE.of (pe_dget (by omega) pe_star pe_star hs) (ho B0 B σ H0 H _ j fun x G0 G g r => ?_)
  refine he B0 B σ G0 G _ (j.grow g) fun y L0 L g2 r2 => ?_
  obtain ⟨p, vs, rfl, h1, h2, h3⟩ := DR.mono g2.s0 _ _ r
  rw [kD_val r2]
  obtain ⟨v, e1, e2⟩ := lookK_val h3 h
  exact ⟨p, v, rfl, .inl ⟨_, k0, Same.rd g2.sh h1, rfl, e1.symm⟩, kk v L0 L (g.trans g2) e2⟩
theorem op_inK (hu : X.A.units + 1 < cLine) : OpR X (compareOp .In) (fun x y H Q => ∃ (p : Addr) (o : Option V), y = .ref p ∧ DGet H p x o ∧ Q (.bl o.isSome) H) := by
  rintro pins s σ H x y v u Q I rx ry ⟨p, o, rfl, g, q⟩
  cases (show u = Value.ref p from ry)
  exact d_in hu I g rx fun s' I' => ⟨.bl o.isSome, H, I', rfl, q⟩
theorem op_notInK (hu : X.A.units + 1 < cLine) : OpR X (compareOp .NotIn) (fun x y H Q => ∃ (p : Addr) (o : Option V), y = .ref p ∧ DGet H p x o ∧ Q (.bl (!o.isSome)) H) := by
  rintro pins s σ H x y v u Q I rx ry ⟨p, o, rfl, g, q⟩
  cases (show u = Value.ref p from ry)
  exact d_notIn hu I g rx fun s' I' => ⟨.bl (!o.isSome), H, I', rfl, q⟩
theorem c2_inDk {ks : List Key} {ds : List D} {k0 : Key} {d0 : D} (hu : X.A.units + 64 < cLine) (h0 : d0 = kD k0) : C2 X .In d0 (.dk ks ds) (.bl (hasK ks k0)) := ⟨_, op_inK (by omega), fun H0 H x y Q s r1 r2 kk => by
  subst h0
  rw [kD_val r1]
  obtain ⟨p, vs, rfl, h1, h2, h3⟩ := r2
  exact ⟨p, valV (ks.zip vs) k0, rfl, .inl ⟨_, k0, Same.rd s h1, rfl, rfl⟩, kk _ H0 H (JH.refl s) (by rw [lookK_isSome h2 h3]; rfl)⟩⟩
theorem c2_notInDk {ks : List Key} {ds : List D} {k0 : Key} {d0 : D} (hu : X.A.units + 64 < cLine) (h0 : d0 = kD k0) : C2 X .NotIn d0 (.dk ks ds) (.bl (!hasK ks k0)) := ⟨_, op_notInK (by omega), fun H0 H x y Q s r1 r2 kk => by
  subst h0
  rw [kD_val r1]
  obtain ⟨p, vs, rfl, h1, h2, h3⟩ := r2
  exact ⟨p, valV (ks.zip vs) k0, rfl, .inl ⟨_, k0, Same.rd s h1, rfl, rfl⟩, kk _ H0 H (JH.refl s) (by rw [lookK_isSome h2 h3]; rfl)⟩⟩
/-- e[k] = v, e a dict at a place, k a new key -/
theorem ws_dputA (i : Nat) {p : Addr} {cs : Cs} {d0 : D} {ks : List Key} {ds : List D} {k0 : Key} {p2 : Pos} (hu : X.A.units + 64 < cLine) (hi : ρ[i]? = some (.ox cs d0)) (hm : (p, OC.dk ks ds) ∈ cs) (ha : ED X ρ a (.ad p)) (hb : ED X ρ b (kD k0)) (he : ED X ρ e d) (hn : k0 ∉ ks) (hl : ks.length < sizeLine)
    (hΦ : Φ (.nx (ρ.set i (.ox (putC cs p (.dk (ks ++ [k0]) (ds ++ [d]))) d0)))) (hs : swapsWith e (some (.Subscript a b p2)) pos.line X.env = pure false := by rfl) : WS X (.Assign [.Subscript a b p2] e pos) ρ Φ := fun B0 B σ H0 H Dn j kk => by
  refine ⟨_, ps_dput (by omega) pe_star pe_star pe_star hs, he B0 B σ H0 H _ j fun v G0 G g1 r1 => ha B0 B σ G0 G _ (j.grow g1) fun x L0 L g2 r2 => hb B0 B σ L0 L _ ((j.grow g1).grow g2) fun y M0 M g3 r3 => ?_⟩
  cases (show x = .ref p from r2)
  rw [kD_val r3]
  have j1 := ((j.grow g1).grow g2).grow g3
  obtain ⟨o, h1, h2, h3, vs, rfl, hlen, rr⟩ := j1.cell hi hm
  refine ⟨p, _, rfl, DPut.k h1 (by rw [List.length_zip, ← hlen]; omega), ?_⟩
  rw [putK_zip hlen hn]
  exact kk _ hΦ _ M0 _ (j1.put hi hm ⟨_, rfl, by simp [hlen], DRs.app rr (DRs.one (DR.mono (g2.trans g3).s0 _ _ r1))⟩)
end
theorem putC_set {cs : Cs} {i : Nat} {p : Addr} {c c' : OC} (nd : (pl cs).Nodup) (h : cs[i]? = some (p, c)) : putC cs p c' = cs.set i (p, c') := by
  unfold putC
  refine List.ext_getElem? fun k => ?_
  rw [List.getElem?_map, List.getElem?_set]
  by_cases e : i = k
  · subst e
    rw [if_pos rfl, if_pos (List.getElem?_eq_some_iff.mp h).1, h]
    simp
  · rw [if_neg e]
    cases hk : cs[k]? with
    | none => rfl
    | some y =>
      have : y.1 ≠ p := fun z => e (by
        have h1 : (pl cs)[i]? = some p := by rw [List.getElem?_map, h]; rfl
        have h2 : (pl cs)[k]? = some p := by rw [List.getElem?_map, hk, ← z]; rfl
        exact (List.getElem?_inj (List.getElem?_eq_some_iff.mp h1).1 nd).mp (h1.trans h2.symm))
      show some (if y.1 = p then (p, c') else y) = some y
      rw [if_neg this]
section
variable {X : Cx} {ρ : En} {Φ : Out → Prop} {e a b : Expr} {pos : Pos} {d : D}
/-- the same, by the cell's number -/
theorem ws_dputI (i m : Nat) {p : Addr} {cs : Cs} {d0 : D} {ks : List Key} {ds : List D} {k0 : Key} {p2 : Pos} (hu : X.A.units + 64 < cLine) (hi : ρ[i]? = some (.ox cs d0)) (hm : cs[m]? = some (p, OC.dk ks ds)) (ha : ED X ρ a (.ad p)) (hb : ED X ρ b (kD k0)) (he : ED X ρ e d) (hn : k0 ∉ ks) (hl : ks.length < sizeLine)
    (hΦ : Φ (.nx (ρ.set i (.ox (cs.set m (p, .dk (ks ++ [k0]) (ds ++ [d]))) d0)))) (hs : swapsWith e (some (.Subscript a b p2)) pos.line X.env = pure false := by rfl) : WS X (.Assign [.Subscript a b p2] e pos) ρ Φ := fun B0 B σ H0 H Dn j kk => by
  obtain ⟨_, _, _, _, nd⟩ := j.get hi
  exact ws_dputA i hu hi (List.mem_iff_getElem?.mpr ⟨m, hm⟩) ha hb he hn hl (by rw [putC_set nd hm]; exact hΦ) hs B0 B σ H0 H Dn j kk
theorem ws_appendI (i m : Nat) {p : Addr} {cs : Cs} {d0 : D} {ds : List D} {p2 p3 : Pos} (hi : ρ[i]? = some (.ox cs d0)) (hm : cs[m]? = some (p, OC.lst ds)) (ha : ED X ρ a (.ad p)) (he : ED X ρ e d) (hl : ds.length < sizeLine) (hΦ : Φ (.nx (ρ.set i (.ox (cs.set m (p, .lst (ds ++ [d]))) d0))))
    (hpe : ∀ {to : TE} {ta : TA}, PE X a to → PA X [e] ta → PS X (.Expr (.Call (.Attribute a "append" p2) [e] [] p3) pos) (tDrop (tBM X.K "list" rAppend to ta))) (hs : starEach [e] X.env = (false, eval e X.env) :: starEach [] X.env := by rfl) :
    WS X (.Expr (.Call (.Attribute a "append" p2) [e] [] p3) pos) ρ Φ := fun B0 B σ H0 H Dn j kk => by
  obtain ⟨_, _, _, _, nd⟩ := j.get hi
  exact ws_appendA i hi (List.mem_iff_getElem?.mpr ⟨m, hm⟩) ha he hl (by rw [putC_set nd hm]; exact hΦ) hpe hs B0 B σ H0 H Dn j kk
end
/-- data that stands nowhere -/
def fltD : D → Bool
  | .non | .bl _ | .int _ | .str _ | .ad _ | .ty _ => true
  | _ => false
theorem DR.flat {K : PySem.W.Frag} {H H' : Hp} {d : D} {v : V} (f : fltD d = true) (h : DR K H d v) : DR K H' d v := by
  cases d <;> first | exact h | cases f
section
variable {K : PySem.W.Frag} {B0 B H : Hp} {σ : L2.St} {i : Nat} {d : D}
theorem shareAllX : ∀ {cs : Cs} {H0 : Hp} {ρ : En}, J K B0 B σ H0 H ρ → ρ[i]? = some (.ox cs d) → ∃ H0', J K B0 B σ H0' H (ρ.set i (.sh d)) ∧ Same H0 H0' ∧ (∀ p ∈ cs, DR K H0' p.2.d (.ref p.1)) ∧ (∀ b, b ∉ pl cs → H0' b = H0 b) ∧ ∀ b ∈ pl cs, H0 b = none
  | [], H0, ρ, j, h => by
    obtain ⟨ov, e1, h1, h2, h3⟩ := j.get h
    exact ⟨H0, j.setSl (s := .sh d) e1 h1 (fun a w => w.elim), Same.refl _, fun p hp => by simp at hp, fun _ _ => rfl, fun b hb => by simp at hb⟩
  | (a, c) :: cs, H0, ρ, j, h => by
    obtain ⟨ov, e1, ⟨v, h1, h1'⟩, h2, h3⟩ := j.get h
    obtain ⟨o, f1, f2, f3, f4⟩ := j.cell h (List.mem_cons_self ..)
    have nd := List.nodup_cons.mp h3
    have s0 : Same H0 (upd H0 a o) := fun b u e => upd_keep e (fun z => by subst z; rw [f2] at e; cases e)
    obtain ⟨j1, s1⟩ := j.shareAt (s' := .ox cs d) (c := c) h e1 (List.mem_cons_self ..) f1 f4 (fun b w => ⟨List.mem_cons_of_mem _ w, fun z => nd.1 (z ▸ w)⟩) fun r => ⟨⟨v, h1, DR.mono s0 _ _ h1'⟩, fun p hp => by
      obtain ⟨ob, g2, g3, g4, g5⟩ := (h2 p (List.mem_cons_of_mem _ hp)).ex
      exact ⟨ob, g2, by rw [upd_ne (fun z => nd.1 (by rw [← z]; exact List.mem_map.mpr ⟨p, hp, rfl⟩))]; exact g3, g4, g5.mono s0⟩, nd.2⟩
    obtain ⟨H1, j3, s3, r3, n3, z3⟩ := shareAllX (cs := cs) j1 (by rw [List.getElem?_set_self (List.getElem?_eq_some_iff.mp h).1])
    rw [List.set_set] at j3
    refine ⟨H1, j3, s1.trans s3, fun p hp => ?_, fun b hb => ?_, fun b hb => ?_⟩
    · rcases List.mem_cons.mp hp with rfl | hp
      · exact DR.mono s3 _ _ (OCR.dr f2 f4)
      · exact r3 p hp
    · have hb' : b ≠ a ∧ b ∉ pl cs := by simpa [pl] using hb
      rw [n3 b hb'.2, upd_ne hb'.1]
    · have hb' : b = a ∨ b ∈ pl cs := by simpa [pl] using hb
      rcases hb' with rfl | hb'
      · exact f2
      · have q := z3 b hb'
        by_cases e : b = a
        · subst e; exact f2
        · rwa [upd_ne e] at q
/-- what was shown is a slot's own again -/
theorem JH.unshow {H0 H1 H G0 G : Hp} {as : List Addr} (s : Same H0 H1) (n : ∀ b, b ∉ as → H1 b = H0 b) (z : ∀ b ∈ as, H0 b = none) (g : JH H1 H G0 G) : JH H0 H (ers G0 as) G :=
  ⟨fun b u e => by rw [ers_out fun hb => by rw [z b hb] at e; cases e]; exact g.s0 b u (s b u e), ers_sub.trans g.sh, g.sB, fun a o h nt e => by
    by_cases ha : a ∈ as
    · exact ers_in ha
    · rw [ers_out ha]; exact g.fr a o h nt (by rw [n a ha]; exact e)⟩
end
section
variable {X : Cx} {ρ : En} {e : Expr} {d d' d0 : D} {cs : Cs}
/-- the cells of slot i are shown while e is asked, which gives what stands nowhere -/
theorem ed_show (i : Nat) (d' : D) (hi : ρ[i]? = some (.ox cs d0)) (hd : ∀ (K : PySem.W.Frag) (H : Hp) v, (∀ p ∈ cs, DR K H p.2.d (.ref p.1)) → DR K H d0 v → DR K H d' v) (h : ED X (ρ.set i (.sh d')) e d) (hf : fltD d = true := by rfl) : ED X ρ e d := fun B0 B σ H0 H Q j kk => by
  obtain ⟨H1, j1, s1, r1, n1, z1⟩ := shareAllX j hi
  have hl : i < σ.length := by rw [j.len]; exact (List.getElem?_eq_some_iff.mp hi).1
  obtain ⟨ov, e1, v, e2, r2⟩ := j1.get (i := i) (s := .sh d0) (by rw [List.getElem?_set_self (by rw [← j.len]; exact hl)])
  have j2 := j1.setSl (i := i) (s := .sh d') e1 ⟨v, e2, hd _ _ v r1 r2⟩ fun a w => w.elim
  rw [List.set_set] at j2
  exact h B0 B σ H1 H Q j2 fun v G0 G g r => kk v (ers G0 (pl cs)) G (g.unshow s1 n1 z1) (DR.flat hf r)
theorem td_show (i : Nat) (d' : D) {k : Bool} (hi : ρ[i]? = some (.ox cs d0)) (hd : ∀ (K : PySem.W.Frag) (H : Hp) v, (∀ p ∈ cs, DR K H p.2.d (.ref p.1)) → DR K H d0 v → DR K H d' v) (h : TD X (ρ.set i (.sh d')) e k) : TD X ρ e k := fun B0 B σ H0 H Q j kk => by
  obtain ⟨H1, j1, s1, r1, n1, z1⟩ := shareAllX j hi
  have hl : i < σ.length := by rw [j.len]; exact (List.getElem?_eq_some_iff.mp hi).1
  obtain ⟨ov, e1, v, e2, r2⟩ := j1.get (i := i) (s := .sh d0) (by rw [List.getElem?_set_self (by rw [← j.len]; exact hl)])
  have j2 := j1.setSl (i := i) (s := .sh d') e1 ⟨v, e2, hd _ _ v r1 r2⟩ fun a w => w.elim
  rw [List.set_set] at j2
  exact h B0 B σ H1 H Q j2 fun G0 G g => kk (ers G0 (pl cs)) G (g.unshow s1 n1 z1)
end
def maxI : Int → List Int → Int
  | d, [] => d
  | _, x :: xs => xs.foldl max x
end DL
namespace DL
open PySem PySem.Spec PyProof.Rows L2
/-- a cell that stands in a library, with its counts and its depth -/
structure LRow where
  r : Rw
  sc : Int
  lc : Int
  dp : Int
def nmsL (R : List LRow) : List Str := R.map fun x => x.r.n
def cnt (f : LRow → Int) (R : List LRow) (n : Str) : Int := ((R.find? fun x => decide (x.r.n = n)).map f).getD 0
def stepL (R : List LRow) (c : Rw) : List LRow := R ++ [⟨c, (c.S.length : Int) + (c.P.map fun p => p.c * p.r * cnt LRow.sc R p.n).sum, (c.L.length : Int) + (c.P.map fun p => p.c * p.r * cnt LRow.lc R p.n).sum, maxI 0 (c.P.map fun p => cnt LRow.dp R p.n + 1)⟩]
def libL (cs : List Rw) : List LRow := cs.foldl stepL []
theorem libL_snoc (cs : List Rw) (c : Rw) : libL (cs ++ [c]) = stepL (libL cs) c := by unfold libL; rw [List.foldl_append]; rfl
theorem stepL_nms (R : List LRow) (c : Rw) : nmsL (stepL R c) = nmsL R ++ [c.n] := by simp [stepL, nmsL]
theorem drs_imp {K : PySem.W.Frag} {H : Hp} : ∀ {ds es : List D} {vs : List V}, ds.length = es.length → (∀ (i : Nat) d e, ds[i]? = some d → es[i]? = some e → ∀ u, DR K H d u → DR K H e u) → DRs K H ds vs → DRs K H es vs
  | [], [], vs, _, _, r => r
  | d :: ds, e :: es, vs, l, h, r => by
    obtain ⟨v, w, rfl, r1, r2⟩ := r
    exact ⟨v, w, rfl, h 0 d e rfl rfl v r1, drs_imp (by simpa using l) (fun i d e h1 h2 => h (i + 1) d e (by simpa using h1) (by simpa using h2)) r2⟩
theorem obj_imp {K : PySem.W.Frag} {H : Hp} {cn : Str} {ns : List Str} {ds es : List D} {v : V} (r : DR K H (.obj cn ns ds) v) (l : ds.length = es.length) (h : ∀ (i : Nat) d e, ds[i]? = some d → es[i]? = some e → ∀ u, DR K H d u → DR K H e u) : DR K H (.obj cn ns es) v := by
  obtain ⟨a, C, dx, vs, h1, hn, h2, h4, h3⟩ := r
  exact ⟨a, C, dx, vs, h1, hn, h2, h4, drs_imp l h h3⟩
/-- a cell that a library may take -/
structure CanL (R : List LRow) (c : Rw) : Prop where
  new : c.n ∉ nmsL R
  old : ∀ p ∈ c.P, p.n ∈ nmsL R
  few : c.S.length ≤ 1000 ∧ c.L.length ≤ 1000 ∧ c.P.length ≤ 1000
  bd : ∀ p ∈ c.P, (1 ≤ p.c ∧ p.c ≤ 100) ∧ (1 ≤ p.r ∧ p.r ≤ 100)
def LibOk (cs : List Rw) : Prop := ∀ (k : Nat) c, cs[k]? = some c → CanL (libL (cs.take k)) c
end DL
namespace DL
open PySem PySem.Spec PyProof.Rows L2
section
variable {X : Cx} {ρ : En} {pos : Pos}
theorem key_back {P : Program} {w : World} {k : Key} {u : Value} (h : (mixKind P w).is k u = true) : RelV (kV k) u := by
  rcases keyIs_shape h with ⟨i, t, rfl, rfl⟩ | ⟨x, t, rfl, rfl⟩
  · exact ⟨t, rfl⟩
  · exact ⟨t, rfl⟩
open PySem.AutoSeq1 (wpAny_loadPart')
/-- what stands in the values that are the keys -/
theorem keys_vals {P : Program} {w : World} {kvs : List (Key × V)} {vs : List (Key × Value)} {acc : Array Value} (r : KV kvs vs) (h : ItemsOf (fun i v => ∃ k x, vs[i]? = some (k, x) ∧ (mixKind P w).is k v = true) acc vs.length) : Vals (kvs.map fun kv => kV kv.1) acc.toList := by
  have e : kvs.map (fun kv => kV kv.1) = (vs.map (·.1)).map kV := by rw [← r.keys, List.map_map]; rfl
  rw [e]
  refine vals_of_at (by have := h.1; simp only [List.length_map, Array.length_toList]; omega) fun i a b h1 h2 => ?_
  rw [Array.getElem?_toList] at h2
  obtain ⟨k, x, h3, h4⟩ := h.2 i b h2
  rw [List.getElem?_map, List.getElem?_map, h3] at h1
  cases h1
  exact key_back h4
def catS (zs : List Str) : Str := zs.foldl (· ++ ·) Str.empty
def sumL (zs : List Str) : Nat := (zs.map (·.length)).sum
/-- the parts of an f-string -/
def FSd (X : Cx) (ρ : En) (es : List Expr) (zs : List Str) : Prop := ∀ B0 B σ H0 H (acc : Str) (Q : Str → Hp → Prop), J X.K B0 B σ H0 H ρ → acc.length + sumL zs ≤ sizeLine → (∀ H0' H', JH H0 H H0' H' → Q (zs.foldl (· ++ ·) acc) H') → tJs (es.map (RE X)) acc σ H Q
theorem pj_star : ∀ es : List Expr, PJ X es (es.map (RE X))
  | [] => .nil
  | _ :: es => .cons pe_star (pj_star es)
theorem app_len (a b : Str) : (a ++ b).length = a.length + b.length := Array.size_append
variable {e o : Expr} {es : List Expr} {zs : List Str} {z : Str}
theorem fs_nil : FSd X ρ [] [] := fun B0 B σ H0 H acc Q j hl k => k H0 H (JH.refl j.same)
theorem fm_s {p : Pos} (h : ED X ρ e (.str z)) (hl : z.length ≤ sizeLine) : ED X ρ (.FormattedValue e (-1) none p) (.str z) := fun B0 B σ H0 H Q j k => RE.of (pe_fmt pe_star) (h B0 B σ H0 H _ j fun v G0 G g r => by
  cases (show v = .str z from r)
  exact .inl ⟨z, rfl, hl, k _ G0 G g rfl⟩)
theorem fm_i {p : Pos} {i : Int} (h : ED X ρ e (.int i)) (hl : i.natAbs.log2 < 1920) : ED X ρ (.FormattedValue e (-1) none p) (.str (Str.ofString (toString i))) := fun B0 B σ H0 H Q j k => RE.of (pe_fmt pe_star) (h B0 B σ H0 H _ j fun v G0 G g r => by
  cases (show v = .int i from r)
  exact .inr ⟨i, rfl, hl, k _ G0 G g rfl⟩)
theorem sumL_cons (z : Str) (zs : List Str) : sumL (z :: zs) = z.length + sumL zs := by simp [sumL]
theorem fs_cons (h : ED X ρ e (.str z)) (r : FSd X ρ es zs) : FSd X ρ (e :: es) (z :: zs) := fun B0 B σ H0 H acc Q j hl k => by
  rw [sumL_cons] at hl
  refine h B0 B σ H0 H _ j fun v G0 G g rv => ?_
  cases (show v = .str z from rv)
  refine ⟨z, rfl, by rw [app_len]; omega, ?_⟩
  exact r B0 B σ G0 G (acc ++ z) Q (j.grow g) (by rw [app_len]; omega) fun L0 L g2 => k L0 L (g.trans g2)
theorem ed_fs {e2 : Expr} (h : FSd X ρ (e :: e2 :: es) zs) (hl : sumL zs ≤ sizeLine) : ED X ρ (.JoinedStr (e :: e2 :: es) pos) (.str (catS zs)) := fun B0 B σ H0 H Q j k =>
  RE.of (pe_joined (pj_star _)) (h B0 B σ H0 H Str.empty (fun out H1 => Q (.str out) H1) j (by show 0 + _ ≤ _; omega) fun G0 G g => k _ G0 G g rfl)
/-- o.join(e) -/
theorem ed_join {a : Str} {ds : D} {apos : Pos} (ho : ED X ρ o (.str a)) (hs : SeqD ds (zs.map .str)) (he : ED X ρ e ds) (hl : sumL zs + zs.length * a.length ≤ 16777216) (h1 : starEach [e] X.env = [(false, eval e X.env)] := by rfl) (hbase : attributeBase o "join" X.env (eval o X.env) = eval o X.env := by rfl) (hline : (apos.endLine == pos.line) = true := by rfl) :
    ED X ρ (.Call (.Attribute o "join" apos) [e] [] pos) (.str (Str.join a zs)) := fun B0 B σ H0 H Q j k => by
  refine RE.of (pe_join pe_star pe_star h1 hbase hline) (ho B0 B σ H0 H _ j fun v G0 G g r => ?_)
  cases (show v = .str a from r)
  refine ⟨⟨a, rfl⟩, he B0 B σ G0 G _ (j.grow g) fun y L0 L g2 r2 => ?_⟩
  have fin : Q (.str (Txt.join a zs)) L := by
    rw [TL.join_eq]
    exact k _ L0 L (g.trans g2) rfl
  cases hs with
  | lst =>
    obtain ⟨p, vs, rfl, h2, h3⟩ := r2
    rw [DRs.strs h3] at h2
    exact ⟨a, p, zs, rfl, rfl, .inl (g2.sh.seq h2), hl, fin⟩
  | tup =>
    obtain ⟨p, vs, rfl, h2, h3⟩ := r2
    rw [DRs.strs h3] at h2
    exact ⟨a, p, zs, rfl, rfl, .inr (Same.seqT g2.sh h2), hl, fin⟩
end
end DL
namespace DL
open PySem PySem.Spec PyProof.Rows L2
abbrev stI (i : Int) : Str := Str.ofString (toString i)
theorem str_ext {a b : Str} (h : a.cps.toList = b.cps.toList) : a = b := by
  obtain ⟨⟨x⟩⟩ := a; obtain ⟨⟨y⟩⟩ := b
  simp at h; rw [h]
theorem app_assoc (a b c : Str) : a ++ b ++ c = a ++ (b ++ c) := str_ext (by simp only [cps_app, List.append_assoc])
theorem ofString_app (a b : String) : Str.ofString (a ++ b) = Str.ofString a ++ Str.ofString b := by
  refine str_ext ?_
  rw [cps_app]
  simp only [Str.ofString_eq_toList, String.toList_append, List.map_append]
theorem stI_neg {n : Nat} (h : 0 < n) : stI (-(n : Int)) = ("-" : Str) ++ stI (n : Int) := by
  obtain ⟨m, rfl⟩ := Nat.exists_eq_succ_of_ne_zero (by omega : n ≠ 0)
  show Str.ofString (toString (Int.negSucc m)) = _
  have e : toString (Int.negSucc m) = "-" ++ toString ((m + 1 : Nat) : Int) := rfl
  rw [e, ofString_app]
theorem stI_len {i : Int} {k : Nat} (hk : 0 < k) (h : i.natAbs < 10 ^ k) : (stI i).length ≤ k + 1 := by
  have e : ∀ n : Nat, n < 10 ^ k → (stI (n : Int)).length ≤ k := fun n hn => by
    rw [TL.len_tl, TL.tl_num]
    exact TL.numL_len hk hn
  rcases Int.lt_or_le i 0 with hi | hi
  · have : i = -((i.natAbs : Nat) : Int) := by omega
    rw [this, stI_neg (by omega), app_len]
    have := e i.natAbs h
    have h1 : ("-" : Str).length = 1 := by decide +kernel
    omega
  · have : i = ((i.natAbs : Nat) : Int) := by omega
    rw [this]
    have := e i.natAbs h
    omega
structure Sm (i : Int) : Prop where
  b : i.natAbs < 10 ^ 40
theorem Sm.len {i : Int} (h : Sm i) : (stI i).length ≤ 41 := stI_len (by decide) h.b
theorem Sm.log {i : Int} (h : Sm i) : i.natAbs.log2 < 1920 := by
  have h1 := h.b
  by_cases h0 : i.natAbs = 0
  · rw [h0]; decide
  · have := (Nat.log2_lt h0 (k := 200)).mpr (Nat.lt_of_lt_of_le h1 (by decide +kernel))
    omega
theorem sumL_nil : sumL [] = 0 := rfl
theorem join_len (a : Str) : ∀ ws : List Str, (Str.join a ws).length ≤ sumL ws + ws.length * a.length
  | [] => by show 0 ≤ _; omega
  | [x] => by show x.length ≤ _; simp [sumL]
  | x :: y :: r => by
    show (x ++ a ++ Str.join a (y :: r)).length ≤ _
    have ih := join_len a (y :: r)
    rw [app_len, app_len, sumL_cons, List.length_cons, Nat.succ_mul]
    omega
/-- what may be written -/
structure SmR (r : Rw) : Prop where
  n : r.n.length ≤ 12
  s : ∀ s ∈ r.S, s.1.length ≤ 12 ∧ Sm s.2.a ∧ Sm s.2.b ∧ Sm s.2.c ∧ Sm s.2.d
  l : ∀ v ∈ r.L, v.n.length ≤ 12 ∧ v.l.length ≤ 12 ∧ Sm v.x ∧ Sm v.y
  p : ∀ v ∈ r.P, v.n.length ≤ 12 ∧ (Sm v.t ∧ Sm v.dx ∧ Sm v.dy) ∧ (Sm v.c ∧ Sm v.r) ∧ Sm v.sx ∧ Sm v.sy
  few : r.S.length ≤ 100 ∧ r.L.length ≤ 100 ∧ r.P.length ≤ 100
theorem lens : ("shape" : Str).length = 5 ∧ ("label" : Str).length = 5 ∧ ("place" : Str).length = 5 ∧ (" " : Str).length = 1 ∧ ("cell " : Str).length = 5 ∧ ("\n" : Str).length = 1 := by decide +kernel
theorem sumL_le {k : Nat} : ∀ {zs : List Str}, (∀ z ∈ zs, z.length ≤ k) → sumL zs ≤ k * zs.length
  | [], _ => by simp [sumL]
  | z :: zs, h => by
    have h1 := h z List.mem_cons_self
    have h2 := sumL_le (zs := zs) fun x hx => h x (List.mem_cons_of_mem _ hx)
    rw [sumL_cons, List.length_cons, Nat.mul_succ]; omega
theorem sm_small {x : Int} (h : x.natAbs ≤ 10 ^ 31) : Sm x := ⟨by omega⟩
theorem lay_len : ∀ n ∈ layN, n.length ≤ 12 := by decide +kernel
theorem lab_len : ∀ n ∈ labN, n.length ≤ 12 := by decide +kernel
theorem nameB_12 {n : Str} (h : nameB n = true) : n.length ≤ 12 := nameB_len h
end DL
namespace DL
open PySem PySem.Spec PyProof.Rows L2
section
variable {X : Cx} {ρ : En} {pos : Pos} {e : Expr}
theorem call_listDk (hc : X.calm = true) : CallR X (.type "list") (fun vs H Q => ∃ a kvs, vs = [V.ref a] ∧ Rd H a (.dK kvs) ∧ ∀ p, H p = none → Q (.ref p) (upd H p (.lst (kvs.map fun kv => kV kv.1)))) := by
  intro pins s σ H vs us Q I r h
  obtain ⟨a, kvs, rfl, hd, q⟩ := h
  rw [Vals.ref1 r]
  obtain ⟨z, lo, xs, rel, dd⟩ := dk_rd I.hok hd
  have hl : xs.length ≤ sizeLine := by rw [← rel.length]; exact z
  obtain ⟨o, es, ep, ho, hex, hdat, qq⟩ := dd
  refine PySem.W.kdl_call (PySem.W.kdl_dict (knd := mixKind X.prog X.w) (kvs := xs) (ep := ep) lo) (I.ok.hd hc) ⟨o, es, ho, hex, hdat, qq⟩ hl fun h' tk acc c' hk hS hacc => ?_
  have hv := keys_vals (P := X.prog) (w := X.w) rel hacc
  exact ⟨.ref _, _, I.laid (t' := tk) hk (Nat.le_refl _) (show ObjOk X.prog X.w _ h' _ (.lst (kvs.map fun kv => kV kv.1)) from ⟨by rw [List.length_map]; exact z, acc.toList, c', hv, by simpa using hS⟩), rfl, q _ (I.hok.fresh (Nat.le_refl _))⟩
theorem bo_listDk {ks : List Key} {ds : List D} (hc : X.calm = true) : BO X (.type "list") [.dk ks ds] (.lst (ks.map kD)) := ⟨_, call_listDk hc, fun H0 H vs Q s r k => by
  obtain ⟨x, rfl, h⟩ := r.one'
  obtain ⟨a, ws, rfl, h1, h2, h3⟩ := h
  refine ⟨a, _, rfl, Same.rd s h1, fun p hp => ?_⟩
  have e : (ks.zip ws).map (fun kv => kV kv.1) = ks.map kV := by
    rw [show (fun kv : Key × V => kV kv.1) = kV ∘ Prod.fst from rfl, ← List.map_map, List.map_fst_zip (Nat.le_of_eq h2)]
  rw [e]
  have g := JH.own (o := .lst (ks.map kV)) s hp
  exact k p _ _ _ g upd_same (s.free hp) hp ⟨_, rfl, keys_dr ks⟩⟩
theorem c2_notInStr {x : Str} {ys : List Str} {d : D} (hd : SeqD d (ys.map D.str)) : C2 X .NotIn (.str x) d (.bl (!decide (x ∈ ys))) := ⟨_, op_notIn_seq, fun H0 H u v Q s r1 r2 k => by
  cases (show u = .str x from r1)
  have hf : (ys.map V.str).all flatV = true := by simp [flatV]
  have hi : inV (.str x) (ys.map V.str) = decide (x ∈ ys) := by
    unfold inV
    rw [Bool.eq_iff_iff]
    simp only [List.any_eq_true, List.mem_map, decide_eq_true_eq]
    constructor
    · rintro ⟨v, ⟨y, hy, rfl⟩, h⟩
      have : y = x := by simpa [eqV] using h
      exact this ▸ hy
    · intro h
      exact ⟨.str x, ⟨x, h, rfl⟩, by simp [eqV]⟩
  have fin : Q (.bl (if true = true then !inV (.str x) (ys.map V.str) else inV (.str x) (ys.map V.str))) H := by
    rw [hi]; exact k _ H0 H (JH.refl s) rfl
  cases hd with
  | lst =>
    obtain ⟨a, vs, rfl, h1, h2⟩ := r2
    rw [DRs.strs h2] at h1
    exact ⟨a, _, rfl, .inl (s.seq h1), rfl, hf, fin⟩
  | tup =>
    obtain ⟨a, vs, rfl, h1, h2⟩ := r2
    rw [DRs.strs h2] at h1
    exact ⟨a, _, rfl, .inr (Same.seqT s h1), rfl, hf, fin⟩⟩
theorem td_showO (i : Nat) {c : OC} {k : Bool} (hi : ρ[i]? = some (.ow c)) (h : TD X (ρ.set i (.sh c.d)) e k) : TD X ρ e k := fun B0 B σ H0 H Q j kk => by
  obtain ⟨a, j'⟩ := j.tell hi
  have hl : i < ρ.length := (List.getElem?_eq_some_iff.mp hi).1
  refine td_show (ρ := ρ.set i (.ox [(a, c)] (.ad a))) i c.d (by rw [List.getElem?_set_self hl]) (fun K H v h1 h2 => ?_) (by rw [List.set_set]; exact h) B0 B σ H0 H Q j' kk
  cases (show v = .ref a from h2)
  exact h1 (a, c) (List.mem_singleton_self _)
def fltDs : List D → Bool
  | [] => true
  | d :: ds => fltD d && fltDs ds
theorem fltDs_map {α : Type} {f : α → D} (h : ∀ x, fltD (f x) = true) : ∀ xs : List α, fltDs (xs.map f) = true
  | [] => rfl
  | x :: xs => by show (fltD (f x) && fltDs (xs.map f)) = true; rw [h x, fltDs_map h xs]; rfl
theorem DRs.flat {K : PySem.W.Frag} {H H' : Hp} : ∀ {ds : List D} {vs : List V}, fltDs ds = true → DRs K H ds vs → DRs K H' ds vs
  | [], vs, _, h => h
  | d :: ds, vs, f, h => by
    obtain ⟨v, w, rfl, h1, h2⟩ := h
    have f' : (fltD d && fltDs ds) = true := f
    rw [Bool.and_eq_true] at f'
    exact ⟨v, w, rfl, DR.flat f'.1 h1, DRs.flat f'.2 h2⟩
section
variable {elt tg iter : Expr} {ifs : List Expr} {scope : Scope} {ds : List D} {cpos : Pos} {α β : Type} {Φ : Out → Prop}
/-- y = [.. for ..] while the cells of slot n are shown; its items stand nowhere -/
theorem ws_setMap2S (n : Nat) (d' : D) {d0 : D} {cs : Cs} (hn : ρ[n]? = some (.ox cs d0)) (hd : ∀ (K : PySem.W.Frag) (H : Hp) v, (∀ p ∈ cs, DR K H p.2.d (.ref p.1)) → DR K H d0 v → DR K H d' v) (i : Nat) (own : List (Str × Nat)) (xs : List α) (enc : α → D) (g : α → β) (enc2 : β → D) {y : Str} {py : Pos} (hc : X.calm = true) (hN : X.N.Nodup) (ok : BlkOk X.N X.env.scope scope own) (hi : ID X (ρ.set n (.sh d')) tg iter ds) (he : ds = xs.map enc) (turn : ∀ x ∈ xs, Turn1 X (ρ.set n (.sh d')) scope (own.map (·.2)) tg elt ifs (enc x) (some (enc2 (g x)))) (hl : xs.length ≤ sizeLine)
    (hΦ : Φ (.nx (ρ.set i (.ow (.lst ((xs.map g).map enc2)))))) (hf : ∀ b, fltD (enc2 b) = true := by intro _; rfl) (hy : X.N[i]? = some y := by rfl) (hyl : X.env.scope.names.lookup y = some .local := by rfl)
    (hsw : swapsWith (.ListComp elt [⟨tg, iter, ifs, 0⟩] scope cpos) (some (.Name y py)) pos.line X.env = pure true := by exact sw_true rfl rfl rfl (by decide +kernel)) (hs : ∀ x, foldedSetIterable iter X.env x = pure x := by intro _; rfl) :
    WS X (.Assign [.Name y py] (.ListComp elt [⟨tg, iter, ifs, 0⟩] scope cpos) pos) ρ Φ := fun B0 B σ H0 H Dn j k => by
  obtain ⟨H1, j1, s1, r1, n1, z1⟩ := shareAllX j hn
  have hl1 : n < σ.length := by rw [j.len]; exact (List.getElem?_eq_some_iff.mp hn).1
  obtain ⟨ov, e1, v, e2, r2⟩ := j1.get (i := n) (s := .sh d0) (by rw [List.getElem?_set_self (by rw [← j.len]; exact hl1)])
  have j2 := j1.setSl (i := n) (s := .sh d') e1 ⟨v, e2, hd _ _ v r1 r2⟩ fun a w => w.elim
  rw [List.set_set] at j2
  refine ⟨_, ps_setLc hc hN hy hyl hsw pi_star ok (g := GB X scope tg) (tt := TB X scope ifs) (te := EB X scope elt)
    (fun s H C cl fp => ⟨fun pins s1 σ1 H1 v u Q1 I r h => (pg_star (tg := tg)).run pins s1 σ1 H1 v u Q1 I r (h s H C cl fp)⟩)
    (fun s H C cl fp => ⟨fun pins s1 σ1 H1 Q1 I h => by obtain ⟨t, h1, h2⟩ := h s H C cl fp; exact h1.run pins s1 σ1 H1 Q1 I h2⟩)
    (fun s H C cl fp => ⟨fun pins s1 σ1 H1 Q1 I h => (pe_star (e := elt)).run pins s1 σ1 H1 Q1 I (h s H C cl fp)⟩) hs,
   lc_read hi (xs.map fun x => some (enc2 (g x))) (by rw [he]; simp) (turns_map he turn) (by rw [he]; simpa using hl) j2 fun a o G0 G gg h1 h2 h3 r => ?_⟩
  rw [filterMap_some] at r
  refine k _ hΦ _ (ers G0 (pl cs)) G (j.setNew (gg.unshow s1 n1 z1) h1 ?_ h3 ?_)
  · by_cases m : a ∈ pl cs
    · exact ers_in m
    · rw [ers_out m]; exact h2
  · obtain ⟨vs, rfl, r⟩ := r
    refine ⟨vs, rfl, ?_⟩
    rw [show (xs.map fun x => enc2 (g x)) = (xs.map g).map enc2 by rw [List.map_map]; rfl] at r
    exact DRs.flat (fltDs_map hf _) r
end
end
def trus (n : Nat) : List V := List.replicate n (.bl true)
theorem putK_has {κ : Type} [DecidableEq κ] {k : κ} : ∀ {ks : List κ}, k ∈ ks → (ks.zip (trus ks.length)).map (fun kv => if kv.1 = k then (kv.1, V.bl true) else kv) = ks.zip (trus ks.length) := fun {ks} _ => by
  conv => rhs; rw [← List.map_id (ks.zip (trus ks.length))]
  refine List.map_congr_left fun p hp => ?_
  have := (List.of_mem_zip hp).2
  have e : p.2 = .bl true := by unfold trus at this; exact (List.mem_replicate.mp this).2
  split
  · show (p.1, V.bl true) = id p
    rw [← e]; rfl
  · rfl
theorem putK_tru {ks : List Key} {k : Key} : putK (ks.zip (trus ks.length)) k (.bl true) = (stepK ks k).zip (trus (stepK ks k).length) := by
  by_cases h : k ∈ ks
  · have e : stepK ks k = ks := if_pos h
    rw [e]
    unfold putK
    have a : ((ks.zip (trus ks.length)).any fun kv => decide (kv.1 = k)) = true := by
      rw [List.any_eq_true]
      obtain ⟨i, hi⟩ := List.getElem?_of_mem h
      have hl := (List.getElem?_eq_some_iff.mp hi).1
      refine ⟨(k, .bl true), ?_, by simp⟩
      refine List.mem_of_getElem? (i := i) ?_
      refine List.getElem?_zip_eq_some (z := (k, V.bl true)) |>.mpr ⟨hi, ?_⟩
      show (List.replicate ks.length (V.bl true))[i]? = some (V.bl true)
      rw [List.getElem?_replicate, if_pos hl]
    rw [a, if_pos rfl, putK_has h]
  · have e : stepK ks k = ks ++ [k] := if_neg h
    rw [e, putK_zip (by simp [trus]) h]
    congr 1
    unfold trus
    rw [List.length_append, List.length_singleton, List.replicate_succ']
theorem drs_trus {K : PySem.W.Frag} {H : Hp} : ∀ n, DRs K H (List.replicate n (D.bl true)) (trus n)
  | 0 => rfl
  | n + 1 => ⟨.bl true, trus n, rfl, rfl, drs_trus n⟩
section
variable {X : Cx} {ρ : En} {kx tg iter : Expr} {scope : Scope} {ds : List D} {cpos p2 : Pos} {kk2 : Nat} {α : Type}
theorem eo_dcT (own : List (Str × Nat)) (xs : List α) (enc : α → D) (kf : α → Key) (hc : X.calm = true) (hN : X.N.Nodup) (ok : BlkOk X.N X.env.scope scope own) (hi : ID X ρ tg iter ds) (he : ds = xs.map enc)
    (turn : ∀ x ∈ xs, TurnD X ρ scope (own.map (·.2)) tg kx (.Constant (.bool true) kk2 p2) (enc x) (kf x) (.bl true)) (hl : xs.length ≤ sizeLine)
    (hs : ∀ x, foldedSetIterable iter X.env x = pure x := by intro _; rfl) : EO X ρ (.DictComp kx (.Constant (.bool true) kk2 p2) [⟨tg, iter, [], 0⟩] scope cpos) (.dk (ddK (xs.map kf)) (List.replicate (ddK (xs.map kf)).length (.bl true))) := fun B0 B σ H0 H Q j k => by
  subst he
  refine RE.of (pe_dc hc hN pi_star ok (g := GB X scope tg) (tt := TB X scope []) (tk := EB X scope kx) (tv := EB X scope (.Constant (.bool true) kk2 p2))
    (fun s H C cl fp => ⟨fun pins s1 σ1 H1 v u Q1 I r h => (pg_star (tg := tg)).run pins s1 σ1 H1 v u Q1 I r (h s H C cl fp)⟩)
    (fun s H C cl fp => ⟨fun pins s1 σ1 H1 Q1 I h => by obtain ⟨t, h1, h2⟩ := h s H C cl fp; exact h1.run pins s1 σ1 H1 Q1 I h2⟩)
    (fun s H C cl fp => ⟨fun pins s1 σ1 H1 Q1 I h => (pe_star (e := kx)).run pins s1 σ1 H1 Q1 I (h s H C cl fp)⟩)
    (fun s H C cl fp => ⟨fun pins s1 σ1 H1 Q1 I h => (pe_star (e := .Constant (.bool true) kk2 p2)).run pins s1 σ1 H1 Q1 I (h s H C cl fp)⟩) hs) ?_
  refine hi B0 B σ H0 H _ j fun Jt G0 G g0 ⟨GG, Y, w, hG, hY⟩ => fun Dn hD => ?_
  have j0 := j.grow g0
  rw [List.length_map] at w
  let kz : Nat → List Key := fun i => ddK ((xs.take i).map kf)
  refine dc_it (g := GB X scope tg) (tt := TB X scope []) (tk := EB X scope kx) (tv := EB X scope (.Constant (.bool true) kk2 p2)) (vs := own.map (·.2)) (Qd := fun H => Q (.ref Dn) H) w
    (fun i H1 => ∃ L0, JH G0 G L0 H1 ∧ H1 Dn = some (.dK ((kz i).zip (trus (kz i).length))) ∧ L0 Dn = none) ⟨G0, JH.own g0.sh hD, upd_same, g0.sh.free hD⟩ (fun i H1 _ ⟨L0, g1, _⟩ => hG L0 H1 g1.s0 g1.sh) ?_ ?_
  · rintro i x H1 H1' hi ⟨L0, g1, hDn, hD0⟩ hy
    obtain ⟨z, hz⟩ : ∃ z, xs[i]? = some z := ⟨xs[i], by simp [hi]⟩
    obtain ⟨L1, g2, rx⟩ := hY i L0 H1 x H1' (enc z) (by rw [List.getElem?_map, hz]; rfl) g1.s0 g1.sh hy
    obtain ⟨ρ', hlen', turn⟩ := turn z (List.mem_of_getElem? hz)
    have j1 := ((j0.grow g1).grow g2).wipe (own.map (·.2))
    intro s Hs C cl fp
    refine (turn s Hs C cl fp).1 B0 B _ L1 H1' x _ j1 rx fun σ2 j2 off => ⟨wipe_back (by rw [j2.len, hlen', ← wipeE_length ρ (own.map (·.2)), ← j1.len, wipe_length]) off, ?_⟩
    have gg := g1.trans g2
    have hDn' := g2.sB _ _ hDn
    have hD0' : L1 Dn = none := g2.fr _ _ hDn trivial hD0
    have eT : kz (i + 1) = stepK (kz i) (kf z) := by
      show ddK ((xs.take (i + 1)).map kf) = _
      rw [List.take_add_one, hz]
      simp only [Option.toList, List.map_append, List.map_cons, List.map_nil]
      exact ddK_snoc _ _
    intro s Hs C cl fp
    refine (tds_nil (X := X.blk s Hs scope (compEnvC scope cl C X.env) fp) (ρ := ρ')) B0 B σ2 L1 H1' _ j2 fun M0 M g3 => iteT fun s Hs C cl fp => ?_
    refine (turn s Hs C cl fp).2.1 B0 B σ2 M0 M _ (j2.grow g3) fun y N0 N g4 ry => fun s Hs C cl fp => ?_
    refine (turn s Hs C cl fp).2.2 B0 B σ2 N0 N _ ((j2.grow g3).grow g4) fun v P0 P g5 rv => ?_
    cases (show v = .bl true from rv)
    have g345 := (g3.trans g4).trans g5
    have h5 := g345.sB _ _ hDn'
    have h50 : P0 Dn = none := g345.fr _ _ hDn' trivial hD0'
    have gl := gg.trans g345
    refine ⟨_, kf z, kD_val ry, h5, ?_, P0, ⟨gl.s0, fun b u e => upd_keep (gl.sh b u e) (ne_of_none e h50), fun b u e => upd_keep (gl.sB b u e) (ne_of_none e hD), gl.fr⟩, ?_, h50⟩
    · have h1 : (kz i).length ≤ ((xs.take i).map kf).length := ddK_len _
      rw [List.length_map, List.length_take] at h1
      rw [List.length_zip]
      have : i < xs.length := hi
      omega
    · rw [upd_same, putK_tru, eT]
  · rintro H1 ⟨L0, g1, hDn, hD0⟩
    have e : kz xs.length = ddK (xs.map kf) := by show ddK ((xs.take xs.length).map kf) = _; rw [List.take_length]
    rw [e] at hDn
    exact k Dn _ L0 H1 (g0.trans g1) hDn hD0 (g0.sB.free hD) ⟨_, rfl, by simp [trus], drs_trus _⟩
end
end DL
namespace DL
open PySem PySem.Spec PyProof.Rows L2
theorem strs_dr {K : PySem.W.Frag} {H : Hp} : ∀ ys : List Str, DRs K H (ys.map D.str) (ys.map V.str)
  | [] => rfl
  | y :: ys => ⟨.str y, _, rfl, rfl, strs_dr ys⟩
section
variable {X : Cx} {ρ : En} {o e : Expr} {pos apos : Pos}
/-- o.split(e) -/
theorem eo_split {a b : Str} (ho : ED X ρ o (.str a)) (he : ED X ρ e (.str b)) (hb : (b.length == 0) = false) (hl : a.length + 2 ≤ sizeLine) (hs : starEach [e] X.env = [(false, eval e X.env)] := by rfl) (hbase : attributeBase o "split" X.env (eval o X.env) = eval o X.env := by rfl) (hline : (apos.endLine == pos.line) = true := by rfl) :
    EO X ρ (.Call (.Attribute o "split" apos) [e] [] pos) (.lst ((Txt.split a b).map .str)) := fun B0 B σ H0 H Q j k =>
  RE.of (pe_split pe_star pe_star hs hbase hline) (ho B0 B σ H0 H _ j fun v G0 G g r => by
    cases (show v = .str a from r)
    exact ⟨⟨a, rfl⟩, he B0 B σ G0 G _ (j.grow g) fun y L0 L g2 r2 => by
      cases (show y = .str b from r2)
      refine ⟨a, b, rfl, rfl, hb, hl, fun p hp => ?_⟩
      have g3 : JH L0 L L0 (upd L p (.lst ((Txt.split a b).map V.str))) := JH.own g2.sh hp
      have gg := (g.trans g2).trans g3
      exact k p _ _ _ gg upd_same (g2.sh.free hp) ((g.trans g2).sB.free hp) ⟨_, rfl, strs_dr _⟩⟩)
/-- o.startswith(e) -/
theorem ed_starts {a b : Str} (ho : ED X ρ o (.str a)) (he : ED X ρ e (.str b)) (hs : starEach [e] X.env = [(false, eval e X.env)] := by rfl) (hbase : attributeBase o "startswith" X.env (eval o X.env) = eval o X.env := by rfl) (hline : (apos.endLine == pos.line) = true := by rfl) :
    ED X ρ (.Call (.Attribute o "startswith" apos) [e] [] pos) (.bl (Txt.startswith a b)) := fun B0 B σ H0 H Q j k =>
  RE.of (pe_m1 PySem.F.slot_str_startswith PySem.F.type_str_startswith mt_startswith pe_star pe_star hs hbase hline) (ho B0 B σ H0 H _ j fun v G0 G g r => by
    cases (show v = .str a from r)
    exact ⟨⟨a, rfl⟩, he B0 B σ G0 G _ (j.grow g) fun y L0 L g2 r2 => by
      cases (show y = .str b from r2)
      exact ⟨a, b, rfl, rfl, k _ L0 L (g.trans g2) rfl⟩⟩)
/-- o.isdigit() -/
theorem ed_isdigit {a : Str} (ho : ED X ρ o (.str a)) (hbase : attributeBase o "isdigit" X.env (eval o X.env) = eval o X.env := by rfl) (hline : (apos.endLine == pos.line) = true := by rfl) :
    ED X ρ (.Call (.Attribute o "isdigit" apos) [] [] pos) (.bl (Txt.isdigit a)) := fun B0 B σ H0 H Q j k =>
  RE.of (pe_m0 PySem.F.slot_str_isdigit PySem.F.type_str_isdigit mt_isdigit pe_star hbase hline) (ho B0 B σ H0 H _ j fun v G0 G g r => by
    cases (show v = .str a from r)
    exact ⟨⟨a, rfl⟩, a, rfl, rfl, trivial, k _ G0 G g rfl⟩)
/-- int(text) -/
theorem bc_intS {a : Str} {n : Int} (h : PySem.intText? a = some n) (hl : a.length ≤ 640) : BC X (.type "int") [.str a] (.int n) := ⟨_, call_int_str, fun H0 H vs Q s r k => by
  obtain ⟨x, rfl, h1⟩ := r.one'
  cases (show x = .str a from h1)
  exact ⟨a, n, rfl, h, hl, k _ H0 H (JH.refl s) rfl⟩⟩
/-- (.., *e) -/
theorem ad_star {es : List Expr} {ds zs : List D} {p : Pos} (h : ED X ρ e (.tup zs)) (r : AD X ρ es ds) (hs : starEach (.Starred e p :: es) X.env = (true, eval e X.env) :: starEach es X.env := by rfl) : AD X ρ (.Starred e p :: es) (zs ++ ds) := fun B0 B σ H0 H Q j k =>
  RA.of (StX.pa_star pe_star DL.pa_star hs) (h B0 B σ H0 H _ j fun v G0 G g1 r1 => by
    obtain ⟨a, vs, rfl, h1, h2⟩ := r1
    exact ⟨a, vs, rfl, .inl (Same.seqT g1.sh h1), r B0 B σ G0 G _ (j.grow g1) fun ws L0 L g2 r2 => k (vs ++ ws) L0 L (g1.trans g2) (DRs.app (DRs.mono g2.s0 _ _ h2) r2)⟩)
end
theorem callWith_type_kwB {M : Model} {A : Around} {E : Value → Shared → Prop} {s : Shared} {pos : Pos} {id : String} {first : List Value} {args : List (Bool × Sem Value)} {keywords : List (Option Str × Sem Value)} {Q : Value → Shared → Prop}
    (hplain : args.any (·.1) = false) (hkw : keywords.any (·.1.isNone) = false)
    (h : wpAny M A (evalArgs (.type id) true args keywords) (fun a s₁ => wpAny M A (call (.type id) (first ++ a.pos) a.kw) Q E s₁) E s) :
    wpAny M A (callWith pos (.type id) first args keywords) Q E s := by
  unfold callWith
  refine wpAny_bind (wpAny_holding (wpAny_mono h (fun a s₁ h₁ => wpAny_bind (wpAny_standAt ?_)) fun _ _ x => x))
  simp only [hplain, hkw, Bool.or_false]
  refine wpAny_bind (wpAny_pure ?_)
  exact wpAny_bind (wpAny_mono h₁ (fun r s₂ hr => wpAny_bind (wpAny_holding (wpAny_point (wpAny_pure hr)))) fun _ _ x => x)
/-- as Ite, counted from k -/
def IteS (K : PySem.W.Frag) (k : Nat) (a : Addr) : It :=
  ⟨fun i H => ∃ (xs : List V) (x : V), SqL K H a xs ∧ xs[i]? = some x, fun i H v H' => ∃ T x, v = .ref T ∧ H T = none ∧ H' = upd H T (.tup [.int ((k : Int) + (i : Int)), x]) ∧ ∀ xs, SqL K H a xs → xs[i]? = some x, fun i H => ∃ xs : List V, SqL K H a xs ∧ xs.length ≤ i⟩
theorem turn_enumS {P : Program} {w : World} {K : PySem.W.Frag} {elts : List Expr} {kk : Nat} {tpos : Pos} (k : Nat) (a e it : Addr) :
    Turn P w K (.Tuple elts kk tpos) (IteS K k a) [e, it] e (fun i h => (∃ old, IsEnum h e it ((k : Int) + (i : Int)) old) ∧ h.IsListIter it a i ∧ e ≠ it ∧ a ≠ it) where
  mem := by simp
  obj := fun i h st b hb => by
    obtain ⟨⟨old, he⟩, ⟨o, ho, hc, hd⟩, _⟩ := st
    have e' : b = e ∨ b = it := by simpa using hb
    rcases e' with z | z
    · rw [z]; exact ⟨_, he, fun v q => nomatch q⟩
    · rw [z]; exact ⟨o, ho, fun v q => by rw [hd] at q; cases q⟩
  keep := fun i h h' st k => let ⟨⟨old, he⟩, hi, hne⟩ := st; ⟨⟨old, k e (by simp) _ he⟩, hi.at fun o q => k it (by simp) o q, hne⟩
  item := by
    intro X hP hw hK hc i pins s σ H E I hf st hg
    subst hP hw hK
    obtain ⟨⟨old, he⟩, hit, hne, hna⟩ := st
    obtain ⟨xs, x, hq, hx⟩ := hg
    obtain ⟨its, rv, p, hz⟩ := I.list hq
    obtain ⟨u, hu, ru⟩ := rv.get hx
    have p' : s.heap.IsList a its.toArray := p.isList
    have hel : e < s.heap.objs.size := Heap.lt_size he
    have hil : it < s.heap.objs.size := by obtain ⟨_, q, _⟩ := hit; exact Heap.lt_size q
    have hea : e ≠ a := fun z => by
      subst z
      obtain ⟨o, q1, q2, _⟩ := p'
      rw [show s.heap.get? e = some _ from he] at q1
      cases q1
      exact absurd (Value.type.inj q2) (by decide)
    have hlt : i < its.toArray.size := by
      have := (List.getElem?_eq_some_iff.mp hu).1
      simpa using this
    refine wpAny_pyNext_enum_itemC (Draws.list (A := X.A.in1) (I.ok.hd hc) it a hna its.toArray) he ⟨hit, p'⟩ hlt hne (by simp [hne, hea]) fun y h' tk hy ho st' hT hsz hk => ?_
    have hyu : y = u := by
      have : its[i]? = some y := by simpa using hy
      rw [hu] at this
      exact (Option.some.inj this).symm
    subst hyu
    refine ⟨_, rfl, wpAny_letOwnedTupleGo_enum (s := { s with heap := h', toks := tk + 1 }) ho fun h'' he' sb => ?_⟩
    have hT2 : h''.get? s.heap.objs.size = some { cls := .type "tuple", data := .seq #[.int ((k : Int) + (i : Int)) tk, y] } := (sb.2 _ (Nat.ne_of_gt hel)).trans hT
    have new : ObjOk X.prog X.w (upd H s.heap.objs.size (.tup [.int ((k : Int) + (i : Int)), x])) h'' s.heap.objs.size (.tup [.int ((k : Int) + (i : Int)), x]) :=
      ⟨by show 2 ≤ sizeLine; decide, [.int ((k : Int) + (i : Int)) tk, y], .cons ⟨_, rfl⟩ (.cons ru .nil), ⟨_, hT2, rfl, _, rfl⟩⟩
    have I1 : Inv X pins σ (upd H s.heap.objs.size (.tup [.int ((k : Int) + (i : Int)), x])) { s with heap := h'', toks := tk + 1 } :=
      I.turnedNew (ch := [e, it]) (fun b ob hb q => (sb.2 b (fun z => hb (by simp [z]))).trans (hk b ob (fun z => hb (by simp [z])) (fun z => hb (by simp [z])) q)) hf (Nat.le_refl _) new
    refine ⟨.ref s.heap.objs.size, _, I1, rfl, ⟨_, x, rfl, I.hok.fresh (Nat.le_refl _), rfl, fun ys hy => by rw [I.list_inj hy hq]; exact hx⟩, ⟨⟨y, ?_⟩, st'.1.at fun o q => (sb.2 it (Ne.symm hne)).trans q, hne, hna⟩, fun b hb => ?_⟩
    · have e1 : (k : Int) + ((i + 1 : Nat) : Int) = (k : Int) + (i : Int) + 1 := by omega
      rw [e1]; exact he'
    · have hb' : b < s.heap.objs.size := by
        have e' : b = e ∨ b = it := by simpa using hb
        rcases e' with z | z
        · rw [z]; exact hel
        · rw [z]; exact hil
      rw [upd_ne (Nat.ne_of_lt hb')]
      exact (hf b hb).1
  done := by
    intro X hP hw hK hc i pins s σ H E I hf st hg
    subst hP hw hK
    obtain ⟨⟨old, he⟩, hit, hne, hna⟩ := st
    obtain ⟨xs, hq, hx⟩ := hg
    obtain ⟨its, rv, p, hz⟩ := I.list hq
    have p' : s.heap.IsList a its.toArray := p.isList
    obtain ⟨f0, f1, f2, f3, f4, f5⟩ := hf it (by simp)
    have hl := rv.length
    have hT : s.TypeIs (.ref e) "enumerate" := ⟨_, he, rfl⟩
    refine (?_ : wpAny _ _ _ _ _ s)
    unfold pyNext
    refine wpAny_bind (wpAny_attempt (wpAny_callSpecial?_slot (name := Str.ofString "__next__") hT F.slot_enumerate_next
      (wpAny_call_entry F.slot_enumerate_next hT F.entry_enumerate_next ?_ (F.args_enumerate_next_1 _))))
    show wpAny _ _ (field (.ref e) 2 >>= _) _ _ _
    refine wpAny_bind (wpAny_field he rfl (x := .ref it) rfl ?_)
    refine wpAny_bind (wpAny_nextOf_list_end (A := X.A.in1) (I.ok.hd hc) hit p' (by simp; omega) fun h' x he' hx' => ?_)
    obtain ⟨o, ho, hc⟩ := hx'
    refine wpAny_bind (wpAny_isInstance (T := "StopIteration") (b := true) ⟨o, ho, hc⟩ isSubtype_stop ?_)
    exact wpAny_pure ⟨rfl, I.turned (t' := s.toks) (fun b o hb q => he' b o hb q) f0 f1 f3 f4 f5⟩
  self := fun A i s Q E st h => let ⟨⟨_, he⟩, _⟩ := st; wpAny_pyIter_enum he h
/-- enumerate(e, start=k) -/
def iEnumS (K : PySem.W.Frag) (k : Nat) (ta : TA) : TI := fun σ H R => ta σ H fun vs H1 => ∃ a xs, vs = [.ref a] ∧ SqL K H1 a xs ∧ R (IteS K k a) H1
theorem pi_enumS {X : Cx} {e : Expr} {ta : TA} {k : Nat} {kc : Nat} {p x0 x1 pos tpos : Pos} {elts : List Expr} {kk : Nat} (hg : Gl X "enumerate") (hm : X.mg "enumerate" = none) (ha : PA X [e] ta) (hk : k < 1000)
    (h1' : backTo pos (starEach [e] X.env) = (false, eval e X.env) :: backTo pos (starEach [] X.env) := by rfl) (h2 : (backTo pos (starEach [e] X.env)).any (·.1) = false := by rfl)
    (h3 : (backToKw pos (keywordEach [⟨some "start", .Constant (.int (k : Int)) kc x0, x1⟩] X.env)).all (·.1.isSome) = true := by rfl) (h4 : (backToKw pos (keywordEach [⟨some "start", .Constant (.int (k : Int)) kc x0, x1⟩] X.env)).any (·.1.isNone) = false := by rfl) (h5 : (backToKw pos (keywordEach [⟨some "start", .Constant (.int (k : Int)) kc x0, x1⟩] X.env)).filterMap (·.1) = [("start" : Str)] := by rfl) :
    PI X (.Tuple elts kk tpos) (.Call (.Name "enumerate" p) [e] [⟨some "start", .Constant (.int (k : Int)) kc x0, x1⟩] pos) (iEnumS X.K k ta) := by
  refine ⟨fun pins s σ H R I h => ?_⟩
  refine wpAny_Call_Name_kw (ld_blt I hg hm boot_enumerate ?_)
  refine callWith_type_kwB h2 h4 ?_
  rw [h1']
  refine evalArgs_kwB h3 ?_
  have hh := ha.run pos pins s σ H _ I h
  rw [h1'] at hh
  refine thn hh fun us s1 ⟨vs, H1, I1, r1, q1⟩ => ?_
  refine thn ((pk_cons (nm := some "start") (pe_int (i := (k : Int)) (j := kc)) pk_nil).run pos pins s1 σ H1 (fun ws H2 => ws = [.int (k : Int)] ∧ H2 = H1) I1 ⟨rfl, rfl⟩) fun ws s2 ⟨zs, H2, I2, r2, q2⟩ => ?_
  obtain ⟨rfl, rfl⟩ := q2
  rw [h5]
  obtain ⟨a, xs, ex, hq, q⟩ := q1
  subst ex
  cases r1 with
  | cons r rr =>
    cases rr
    cases r
    cases r2 with
    | cons t tt =>
      cases tt
      obtain ⟨tz, rfl⟩ := t
      obtain ⟨its, rv, p', hz⟩ := I2.list hq
      have p2 : s2.heap.IsList a its.toArray := p'.isList
      have hlt : a < s2.heap.objs.size := by obtain ⟨_, q, _⟩ := p2; exact Heap.lt_size q
      refine enum_begins_start (begins_list a its.toArray) p2 (by omega) (by omega) fun h' he hit hsz hk => wpAny_pyIter_enum he ?_
      have I3 : Inv X pins σ H2 { s2 with heap := h' } := I2.kept (t' := s2.toks) hk
      refine ⟨s2.heap.objs.size + 1, [s2.heap.objs.size + 1, s2.heap.objs.size], _, _, H2, rfl, I3, turn_enumS k a (s2.heap.objs.size + 1) s2.heap.objs.size, ⟨⟨.none, by simpa using he⟩, ⟨_, hit, rfl, rfl⟩, Nat.succ_ne_self _, Nat.ne_of_lt hlt⟩, fun b hb => ?_, q⟩
      have e' : b = s2.heap.objs.size + 1 ∨ b = s2.heap.objs.size := by simpa using hb
      have hle : s2.heap.objs.size ≤ b := by
        rcases e' with z | z
        · rw [z]; exact Nat.le_add_right _ _
        · rw [z]; exact Nat.le_refl _
      exact I2.fpOk hle (I2.hok.fresh hle)
theorem walk_enumS {K : PySem.W.Frag} {k : Nat} {a : Addr} {xs : List V} : Walk (IteS K k a) xs.length (fun H => SqL K H a xs) (YPair (fun i => some (.int ((k : Int) + (i : Int)))) (fun i => xs[i]?)) := by
  refine ⟨fun i _ hi q => ⟨xs, xs[i], q, by simp [hi]⟩, fun _ q => ⟨xs, q, Nat.le_refl _⟩, fun i H v H' _ q y => ?_⟩
  obtain ⟨T, x, h1, h2, h3, h4⟩ := y
  exact ⟨T, .int ((k : Int) + (i : Int)), x, h1, h2, h3, rfl, h4 xs q⟩
/-- numbered from k -/
def enumK (k : Nat) (ds : List D) : List D := (List.range ds.length).zipWith (fun (i : Nat) d => D.tup [.int ((k : Int) + (i : Int)), d]) ds
theorem enumK_len (k : Nat) (ds : List D) : (enumK k ds).length = ds.length := by simp [enumK]
theorem enumK_get {k : Nat} {ds : List D} {i : Nat} {d : D} (h : (enumK k ds)[i]? = some d) : ∃ d', ds[i]? = some d' ∧ d = .tup [.int ((k : Int) + (i : Int)), d'] := by
  have hi : i < ds.length := by have := (List.getElem?_eq_some_iff.mp h).1; rwa [enumK_len] at this
  refine ⟨ds[i], by simp [hi], ?_⟩
  unfold enumK at h
  rw [List.getElem?_zipWith, List.getElem?_range hi, List.getElem?_eq_getElem hi] at h
  exact (Option.some.inj h).symm
theorem id_enumS {X : Cx} {ρ : En} {a : Expr} {k kc : Nat} {pos x0 x1 : Pos} {ds : List D} {elts : List Expr} {kk : Nat} {tpos p : Pos} (hg : Gl X "enumerate") (hm : X.mg "enumerate" = none) (ha : ED X ρ a (.lst ds)) (hk : k < 1000 := by decide) (hs2 : starEach [a] X.env = (false, eval a X.env) :: starEach [] X.env := by rfl)
    (h1' : backTo pos (starEach [a] X.env) = (false, eval a X.env) :: backTo pos (starEach [] X.env) := by rfl) (h2 : (backTo pos (starEach [a] X.env)).any (·.1) = false := by rfl)
    (h3 : (backToKw pos (keywordEach [⟨some "start", .Constant (.int (k : Int)) kc x0, x1⟩] X.env)).all (·.1.isSome) = true := by rfl) (h4 : (backToKw pos (keywordEach [⟨some "start", .Constant (.int (k : Int)) kc x0, x1⟩] X.env)).any (·.1.isNone) = false := by rfl) (h5 : (backToKw pos (keywordEach [⟨some "start", .Constant (.int (k : Int)) kc x0, x1⟩] X.env)).filterMap (·.1) = [("start" : Str)] := by rfl) :
    ID X ρ (.Tuple elts kk tpos) (.Call (.Name "enumerate" p) [a] [⟨some "start", .Constant (.int (k : Int)) kc x0, x1⟩] pos) (enumK k ds) := fun B0 B σ H0 H R j kq =>
  ⟨_, pi_enumS hg hm DL.pa_star hk h1' h2 h3 h4 h5, ad_cons (X := X) ha ad_nil hs2 B0 B σ H0 H _ j fun vs G0 G g r => by
    obtain ⟨x, rfl, q, ys, rfl, h1, h2⟩ := r.one'
    refine ⟨q, ys, rfl, g.sh.seq h1, kq _ G0 G g (dw_pair (f := fun _ => none) (g := fun _ => none) walk_enumS (by rw [enumK_len, DRs.length h2]) (fun H1 H s1 s2 => (s1.trans s2).seq h1) fun i d hd => ?_)⟩
    obtain ⟨d', e1, rfl⟩ := enumK_get hd
    obtain ⟨v, e2, e3⟩ := DRs.get h2 e1
    refine ⟨_, _, rfl, fun v hv => ?_, fun v' hv => ?_⟩
    · cases hv; rfl
    · rw [e2] at hv; cases hv; exact e3⟩
theorem cutDrop (l : List D) {k : Int} (h : 0 ≤ k) : cutD l (some k) none = l.drop k.toNat := by
  unfold cutD
  show (l.drop (HT.sIx l.length 0 (some k))).take (l.length - HT.sIx l.length 0 (some k)) = _
  have e : HT.sIx l.length 0 (some k) = min k.toNat l.length := by
    unfold HT.sIx; simp only; split <;> omega
  rw [e, List.take_of_length_le (by rw [List.length_drop]; exact Nat.le_refl _)]
  by_cases hk : k.toNat ≤ l.length
  · rw [Nat.min_eq_left hk]
  · rw [Nat.min_eq_right (by omega), List.drop_eq_nil_of_le (Nat.le_refl _), List.drop_eq_nil_of_le (by omega)]
end DL
namespace DL
open PySem PySem.Spec PyProof.Rows L2
theorem CirOk.perm {n : Int} {N M : List Nm} {V : List Dev} (ok : CirOk n N V) (p : M.Perm N) : CirOk n M V :=
  ⟨ok.nn, fun q hq => ok.nm q (p.mem_iff.mp hq), (p.map _).nodup_iff.mpr ok.d1, (p.map _).nodup_iff.mpr ok.d2, by rw [p.length_eq]; exact ok.nl, ok.vl, ok.dv⟩
theorem CirOk.filter {n : Int} {N : List Nm} {V : List Dev} (ok : CirOk n N V) (p : Nm → Bool) : CirOk n (N.filter p) V :=
  ⟨ok.nn, fun q hq => ok.nm q (List.mem_filter.mp hq).1, ok.d1.sublist (List.Sublist.map _ List.filter_sublist), ok.d2.sublist (List.Sublist.map _ List.filter_sublist), Nat.le_trans (List.length_filter_le _ _) ok.nl, ok.vl, ok.dv⟩
end DL
namespace DL
open PySem PySem.Spec PyProof.Rows L2
/-- alike but for a dict at a, that is locked in one -/
structure Fz (a : Addr) (t : List (List Key × V)) (H H' : Hp) : Prop where
  at1 : Rd H a (.dT t)
  at2 : Rd H' a (.dT t)
  ne : ∀ b, b ≠ a → H' b = H b
theorem Rd.uniq {H : Hp} {a : Addr} {u w : HO} (h : Rd H a u) (k : Rd H a w) (hu : ∀ o x, u ≠ .frz o x) (hw : ∀ o x, w ≠ .frz o x) : u = w := by
  rcases h with h | ⟨o, h⟩ <;> rcases k with k | ⟨o', k⟩
  · exact Option.some.inj (h.symm.trans k)
  · exact absurd (Option.some.inj (h.symm.trans k)) (hu _ _)
  · exact absurd (Option.some.inj (k.symm.trans h)) (hw _ _)
  · have := Option.some.inj (h.symm.trans k); injection this
theorem Fz.rd {a : Addr} {t : List (List Key × V)} {H H' : Hp} (f : Fz a t H H') {b : Addr} {u : HO} (hu : ∀ o x, u ≠ .frz o x) (h : Rd H b u) : Rd H' b u := by
  by_cases e : b = a
  · subst e
    rw [Rd.uniq h f.at1 hu (fun _ _ z => by cases z)]
    exact f.at2
  · rcases h with h | ⟨o, h⟩
    · exact .inl (by rw [f.ne b e]; exact h)
    · exact .inr ⟨o, by rw [f.ne b e]; exact h⟩
theorem c2_notInSq {X : Cx} {p1 p2 : Int} {ks : List Sq} (hu : X.A.units + 64 < cLine) : C2 X .NotIn (.tup [.int p1, .int p2]) (dicD ks).d (.bl (!decide ((p1, p2) ∈ ks))) := ⟨_, op_notInSq (by omega), fun H0 H x y Q s r1 r2 kk => by
  obtain ⟨b, vs, rfl, f1, r⟩ := r1
  obtain ⟨u, w, rfl, e2, e3⟩ := r.two
  cases (show u = .int p1 from e2); cases (show w = .int p2 from e3)
  obtain ⟨a, rfl, h1⟩ := dr_dic r2
  exact ⟨a, b, _, kq (p1, p2), rfl, rfl, Same.rd s h1, Same.seqT s f1, by rw [tT_val]; exact kk _ H0 H (JH.refl s) rfl⟩⟩
end DL
namespace DL
open PySem PySem.Spec PyProof.Rows L2
theorem DevOk.up {n m : Int} {v : Dev} (h : DevOk n v) (hm : n ≤ m) : DevOk m v := ⟨h.k, ⟨h.g.1, by have := h.g.2; omega⟩, ⟨h.e.1, h.e.2.1, by have := h.e.2.2; omega⟩, h.w, h.l⟩
theorem CirOk.up {n : Int} {N : List Nm} {V : List Dev} (ok : CirOk n N V) (h : n ≤ 100) : CirOk (n + 1) N V :=
  ⟨by have := ok.nn; omega, fun q hq => ⟨by have := (ok.nm q hq).1; omega, (ok.nm q hq).2⟩, ok.d1, ok.d2, ok.nl, ok.vl, fun v hv => (ok.dv v hv).up (by omega)⟩
theorem CirOk.more {n : Int} {N : List Nm} {V : List Dev} {z : Str} (ok : CirOk n N V) (h : n ≤ 100) (hl : N.length ≤ 100) (hz : nameB z = true) (hn : ∀ q ∈ N, q.2 ≠ z) : CirOk (n + 1) (N ++ [(n, z)]) V := by
  have up := ok.up h
  refine ⟨up.nn, fun q hq => ?_, ?_, ?_, by rw [List.length_append]; simp only [List.length_cons, List.length_nil]; omega, ok.vl, up.dv⟩
  · rcases List.mem_append.mp hq with hq | hq
    · exact up.nm q hq
    · rw [List.mem_singleton] at hq; subst hq
      exact ⟨by have := ok.nn; simp only; omega, hz⟩
  · rw [List.map_append, List.nodup_append]
    refine ⟨ok.d1, by simp, fun a ha b hb e => ?_⟩
    obtain ⟨q, hq, rfl⟩ := List.mem_map.mp ha
    simp only [List.map_cons, List.map_nil, List.mem_singleton] at hb
    have := (ok.nm q hq).1
    omega
  · rw [List.map_append, List.nodup_append]
    refine ⟨ok.d2, by simp, fun a ha b hb e => ?_⟩
    obtain ⟨q, hq, rfl⟩ := List.mem_map.mp ha
    simp only [List.map_cons, List.map_nil, List.mem_singleton] at hb
    exact hn q hq (e.trans hb)
theorem CirOk.devs {n : Int} {N : List Nm} {V W : List Dev} (ok : CirOk n N V) (h : W.length ≤ 200) (hd : ∀ v ∈ W, DevOk n v) : CirOk n N W := ⟨ok.nn, ok.nm, ok.d1, ok.d2, ok.nl, h, hd⟩
theorem CirOk.names {n : Int} {N M : List Nm} {V : List Dev} (ok : CirOk n N V) (h : M.Sublist N) : CirOk n M V :=
  ⟨ok.nn, fun q hq => ok.nm q (h.subset hq), (h.map _).nodup ok.d1, (h.map _).nodup ok.d2, Nat.le_trans h.length_le ok.nl, ok.vl, ok.dv⟩
def zz : Str := "zz9z"
theorem zz_ok : nameB zz = true := by decide +kernel
def wid (v : Dev) : Dev := ⟨v.k, v.g, v.a, v.b, v.w + 1, v.l⟩
theorem wid_ok {n : Int} {v : Dev} (h : DevOk n v) : DevOk n (wid v) := ⟨h.k, h.g, h.e, by have := h.w; show 1 ≤ v.w + 1; omega, h.l⟩
/-- all the law needs of a drawn circuit -/
structure Drn (n : Int) (N : List Nm) (V : List Dev) : Prop where
  ok : CirOk n N V
  n : n ≤ 14
  nl : N.length ≤ 14
  vl : V.length ≤ 12
  z : ∀ q ∈ N, q.2 ≠ zz
section
variable {n : Int} {N : List Nm} {V V0 : List Dev} {v : Dev}
theorem Drn.a (h : Drn n N V) : CirOk (n + 1) N V := h.ok.up (by have := h.n; omega)
theorem Drn.b (h : Drn n N V) : CirOk (n + 1) (N ++ [(n, zz)]) V := h.ok.more (by have := h.n; omega) (by have := h.nl; omega) zz_ok h.z
theorem Drn.c (h : Drn n N V) (e : V = V0 ++ [v]) : CirOk n N V0 := h.ok.devs (by have := h.vl; rw [e, List.length_append] at this; omega) fun w hw => h.ok.dv w (by rw [e]; simp [hw])
theorem Drn.d (h : Drn n N V) (e : V = V0 ++ [v]) : CirOk n N (V ++ [v]) := h.ok.devs (by have := h.vl; rw [List.length_append]; simp only [List.length_cons, List.length_nil]; omega) fun w hw => by
  rcases List.mem_append.mp hw with hw | hw
  · exact h.ok.dv w hw
  · rw [List.mem_singleton] at hw; subst hw; exact h.ok.dv w (by rw [e]; simp)
theorem Drn.e (h : Drn n N V) (e : V = V0 ++ [v]) : CirOk n N (V0 ++ [wid v]) := h.ok.devs (by have := h.vl; rw [e] at this; rw [List.length_append] at this ⊢; exact Nat.le_trans this (by omega)) fun w hw => by
  rcases List.mem_append.mp hw with hw | hw
  · exact h.ok.dv w (by rw [e]; simp [hw])
  · rw [List.mem_singleton] at hw; subst hw; exact wid_ok (h.ok.dv v (by rw [e]; simp))
theorem Drn.g (h : Drn n N V) : CirOk n (N.drop 1) V := h.ok.names (List.drop_sublist 1 N)
theorem Drn.r (h : Drn n N V) : CirOk n N.reverse V := h.ok.perm N.reverse_perm
end
end DL
namespace DL
open PySem PySem.Spec PyProof.Rows L2
section
variable {K : PySem.W.Frag} {B0 B H0 H : Hp} {σ : L2.St} {ρ : En}
/-- some cells of a slot are let go, the rest in any order -/
theorem J.pick (j : J K B0 B σ H0 H ρ) {i : Nat} {cs cs' : Cs} {d : D} (h : ρ[i]? = some (.ox cs d)) (p : ∀ x ∈ cs', x ∈ cs) (nd : (pl cs).Nodup → (pl cs').Nodup) : J K B0 B σ H0 H (ρ.set i (.ox cs' d)) := by
  obtain ⟨ov, e1, f1, f2, f3⟩ := j.get h
  exact j.setSl (s := .ox cs' d) e1 ⟨f1, fun q hq => f2 q (p q hq), nd f3⟩ (j.sub h e1 fun a w => by
    have w' : a ∈ cs'.map (·.1) := w
    obtain ⟨x, hx, rfl⟩ := List.mem_map.mp w'
    exact List.mem_map.mpr ⟨x, p x hx, rfl⟩)
end
section
variable {X : Cx} {ρ : En} {e : Expr} {pos : Pos} {d : D} {cn : Str} {fs ns : List Str} {ds : List D} {f : Str} {Φ : Out → Prop} {rest : List Stmt}
theorem ws_pick (s : Nat) {cs cs' : Cs} {d0 : D} (hρ : ρ[s]? = some (.ox cs d0)) (p : ∀ x ∈ cs', x ∈ cs) (nd : (pl cs).Nodup → (pl cs').Nodup) (h : WSs X rest (ρ.set s (.ox cs' d0)) Φ) : WSs X rest ρ Φ := fun B0 B σ H0 H Dn j k => h B0 B σ H0 H Dn (j.pick hρ p nd) k
theorem ws_pick46 (s : Nat) {x1 x2 x3 x4 x5 x6 : Addr × OC} {d0 : D} (hρ : ρ[s]? = some (.ox [x1, x2, x3, x4, x5, x6] d0)) (h : WSs X rest (ρ.set s (.ox [x1, x2, x5, x6] d0)) Φ) : WSs X rest ρ Φ :=
  ws_pick s hρ (fun x hx => by
    have : x = x1 ∨ x = x2 ∨ x = x5 ∨ x = x6 := by simpa using hx
    rcases this with rfl | rfl | rfl | rfl <;> simp) (fun nd => by
    have e : (pl [x1, x2, x5, x6]).Sublist (pl [x1, x2, x3, x4, x5, x6]) := ((List.Sublist.refl _).cons _ |>.cons _ |>.cons₂ x2.1 |>.cons₂ x1.1)
    exact nd.sublist e) h
/-- self.f = e again, cells beside it -/
theorem ws_setFCU (s m : Nat) {a : Addr} {x : Str} {p pos' : Pos} {value : Expr} {cs : Cs} (kl : Kl X.K X.mg cn fs) (hρ : ρ[s]? = some (.ox ((a, .ins cn ns ds) :: cs) (.ad a))) (hv : ED X ρ value d) (hΦ : Φ (.nx (ρ.set s (.ox ((a, .ins cn ns (ds.set m d)) :: cs) (.ad a)))))
    (hold : ns[m]? = some f := by rfl) (hu : (ns.take m).contains f = false := by decide +kernel) (hf : f ∈ fs := by decide +kernel) (hlt : ns.length < 1000 := by decide)
    (hN : X.N[s]? = some x := by rfl) (hvis : Vis X.env.scope x := by first | exact Or.inl rfl | exact Or.inr (Or.inl rfl) | exact Or.inr (Or.inr rfl)) (hdb : (x == ("__debug__" : Str)) = false := by decide) (hcd : (x == ("__classdict__" : Str)) = false := by decide)
    (hs : swapsWith value (some (.Attribute (.Name x p) f pos')) pos.line X.env = pure false := by rfl) : WS X (.Assign [.Attribute (.Name x p) f pos'] value pos) ρ Φ := fun B0 B σ H0 H Dn j k => by
  refine ⟨_, ps_fld (pe_var hN hvis hdb hcd) pe_star hs, hv B0 B σ H0 H _ j fun v G0 G g r => ?_⟩
  have j1 := j.grow g
  obtain ⟨ov, e1, ⟨v1, rfl, rv⟩, hcs, nd⟩ := j1.get hρ
  cases (show v1 = .ref a from rv)
  obtain ⟨o, h1, h2, h3, vs, C, dx, rfl, hC, hlen, hvs⟩ := (hcs _ (List.mem_cons_self ..)).ex
  obtain ⟨C', hC', hm, hc, hk, hna⟩ := kl.ex
  rw [hC] at hC'; cases hC'
  have hl : (ns.zip vs).length < 1000 := by rw [List.length_zip]; omega
  refine ⟨_, e1, a, C, dx, _, rfl, h1, hc.cl, hna f hf, hl, ?_⟩
  rw [putF_old hold hu hlen]
  have hds : DRs X.K G0 (ds.set m d) (vs.set m v) := DRs.set r m hvs
  have j2 := j1.put (c' := .ins cn ns (ds.set m d)) (o := .ins C dx (ns.zip (vs.set m v))) hρ (List.mem_cons_self ..) ⟨vs.set m v, C, dx, rfl, hC, by simp [hlen], hds⟩
  rw [putC_hd nd] at j2
  exact k _ hΦ _ _ _ j2
/-- self.f = a new own thing, again -/
theorem ws_setFOU (s m : Nat) {a : Addr} {x : Str} {p pos' : Pos} {value : Expr} {cs : Cs} {c : OC} (kl : Kl X.K X.mg cn fs) (hρ : ρ[s]? = some (.ox ((a, .ins cn ns ds) :: cs) (.ad a))) (hv : EO X ρ value c) (hΦ : ∀ q, Φ (.nx (ρ.set s (.ox ((a, .ins cn ns (ds.set m (.ad q))) :: (cs ++ [(q, c)])) (.ad a)))))
    (hold : ns[m]? = some f := by rfl) (hu : (ns.take m).contains f = false := by decide +kernel) (hf : f ∈ fs := by decide +kernel) (hlt : ns.length < 1000 := by decide)
    (hN : X.N[s]? = some x := by rfl) (hvis : Vis X.env.scope x := by first | exact Or.inl rfl | exact Or.inr (Or.inl rfl) | exact Or.inr (Or.inr rfl)) (hdb : (x == ("__debug__" : Str)) = false := by decide) (hcd : (x == ("__classdict__" : Str)) = false := by decide)
    (hs : swapsWith value (some (.Attribute (.Name x p) f pos')) pos.line X.env = pure false := by rfl) : WS X (.Assign [.Attribute (.Name x p) f pos'] value pos) ρ Φ := fun B0 B σ H0 H Dn j k => by
  refine ⟨_, ps_fld (pe_var hN hvis hdb hcd) pe_star hs, hv B0 B σ H0 H _ j fun q oq G0 G g q1 q2 q3 q4 => ?_⟩
  have j1 := j.more g hρ q1 q2 q3 q4
  have hlt' : s < ρ.length := (List.getElem?_eq_some_iff.mp hρ).1
  obtain ⟨ov, e1, ⟨v1, rfl, rv⟩, hcs, nd⟩ := j1.get (i := s) (s := .ox ((a, .ins cn ns ds) :: (cs ++ [(q, c)])) (.ad a)) (by rw [List.getElem?_set_self hlt']; rfl)
  cases (show v1 = .ref a from rv)
  obtain ⟨o, h1, h2, h3, vs, C, dx, rfl, hC, hlen, hvs⟩ := (hcs _ (List.mem_cons_self ..)).ex
  obtain ⟨C', hC', hm, hc, hk, hna⟩ := kl.ex
  rw [hC] at hC'; cases hC'
  have hl : (ns.zip vs).length < 1000 := by rw [List.length_zip]; omega
  refine ⟨_, e1, a, C, dx, _, rfl, h1, hc.cl, hna f hf, hl, ?_⟩
  rw [putF_old hold hu hlen]
  have j2 := j1.put (i := s) (cs := (a, .ins cn ns ds) :: (cs ++ [(q, c)])) (d := .ad a) (c' := .ins cn ns (ds.set m (.ad q))) (o := .ins C dx (ns.zip (vs.set m (.ref q)))) (by rw [List.getElem?_set_self hlt']; rfl) (List.mem_cons_self ..) ⟨vs.set m (.ref q), C, dx, rfl, hC, by simp [hlen], DRs.set (d := .ad q) (v := V.ref q) rfl m hvs⟩
  rw [putC_hd nd, List.set_set] at j2
  exact k _ (hΦ q) _ _ _ j2
def TP (X : Cx) (ρ : En) (e : Expr) (Ψ : Bool → En → Prop) : Prop := ∀ B0 B σ H0 H (Q : Bool → Hp → Prop), J X.K B0 B σ H0 H ρ → (∀ b ρ' H0' H', Ψ b ρ' → J X.K B0 B σ H0' H' ρ' → Q b H') → RT X e σ H Q
theorem tp_val {Ψ : D → En → Prop} (h : EP X ρ e Ψ) (hb : ∀ d ρ', Ψ d ρ' → ∃ b, d = .bl b) (he : ∀ whole, isTrue e X.env whole = (do let v ← whole; standAt e.pos; holding [v] (truthy v)) := by intro _; rfl) : TP X ρ e (fun b ρ' => Ψ (.bl b) ρ') := fun B0 B σ H0 H Q j kk =>
  RT.of (pt_val pe_star he) (h B0 B σ H0 H _ j fun d ρ' v H0' H' w s1 j1 r => by
    obtain ⟨b, rfl⟩ := hb d ρ' w
    exact ⟨b, r, kk b ρ' H0' H' w j1⟩)
theorem tp_not {Ψ : Bool → En → Prop} (h : TP X ρ e Ψ) : TP X ρ (.UnaryOp .Not e pos) (fun b ρ' => Ψ (!b) ρ') := fun B0 B σ H0 H Q j kk =>
  RT.of (pt_not pt_star) (h B0 B σ H0 H _ j fun b ρ' H0' H' w j1 => kk (!b) ρ' H0' H' (by show Ψ (!!b) ρ'; rw [Bool.not_not]; exact w) j1)
theorem ws_ifP {Ψ : Bool → En → Prop} {sa sb : List Stmt} (hc : TP X ρ e Ψ) (h1 : ∀ ρ', Ψ true ρ' → WSs X sa ρ' Φ) (h2 : ∀ ρ', Ψ false ρ' → WSs X sb ρ' Φ) : WS X (.If e sa sb pos) ρ Φ := fun B0 B σ H0 H Dn j kk => by
  refine ⟨_, ps_if pt_star pss_star pss_star, hc B0 B σ H0 H _ j fun b ρ' H0' H' w j1 => ?_⟩
  cases b with
  | true => exact iteT (h1 ρ' w B0 B σ H0' H' Dn j1 kk)
  | false => exact iteF (h2 ρ' w B0 B σ H0' H' Dn j1 kk)
/-- (.., *e), e a list -/
theorem ad_starL {es : List Expr} {ds zs : List D} {p : Pos} (h : ED X ρ e (.lst zs)) (r : AD X ρ es ds) (hs : starEach (.Starred e p :: es) X.env = (true, eval e X.env) :: starEach es X.env := by rfl) : AD X ρ (.Starred e p :: es) (zs ++ ds) := fun B0 B σ H0 H Q j k =>
  RA.of (StX.pa_star pe_star DL.pa_star hs) (h B0 B σ H0 H _ j fun v G0 G g1 r1 => by
    obtain ⟨a, vs, rfl, h1, h2⟩ := r1
    exact ⟨a, vs, rfl, .inr (g1.sh.seq h1), r B0 B σ G0 G _ (j.grow g1) fun ws L0 L g2 r2 => k (vs ++ ws) L0 L (g1.trans g2) (DRs.app (DRs.mono g2.s0 _ _ h2) r2)⟩)
end
mutual
def noT : D → Bool
  | .tup ds => noTs ds
  | .non => true
  | .bl _ => true
  | .int _ => true
  | .str _ => true
  | _ => false
def noTs : List D → Bool
  | [] => true
  | d :: ds => noT d && noTs ds
end
theorem noTs_map {α : Type} {f : α → D} (h : ∀ x, noT (f x) = true) : ∀ xs : List α, noTs (xs.map f) = true
  | [] => rfl
  | x :: xs => by show (noT (f x) && noTs (xs.map f)) = true; rw [h x, noTs_map h xs]; rfl
/-- no tuple stands at these places -/
def NoTup (K : PySem.W.Frag) (H : Hp) (as : List Addr) : Prop := ∀ b ∈ as, ∀ xs, ¬ Rd H b (.tup xs)
theorem ers_sqT {K : PySem.W.Frag} {H : Hp} {as : List Addr} (h : NoTup K H as) {b : Addr} {vs : List V} (r : SqT K H b vs) : SqT K (ers H as) b vs := by
  rcases r with r | r
  · have nb : b ∉ as := fun m => h b m _ r
    refine .inl ?_
    rcases r with r | ⟨o, r⟩
    · exact .inl (by rw [ers_out nb]; exact r)
    · exact .inr ⟨o, by rw [ers_out nb]; exact r⟩
  · exact .inr r
mutual
theorem ers_dr {K : PySem.W.Frag} {H : Hp} {as : List Addr} (h : NoTup K H as) : ∀ (d : D) (v : V), noT d = true → DR K H d v → DR K (ers H as) d v
  | .tup ds, v, n, r => by
    obtain ⟨a, vs, rfl, h1, h2⟩ := r
    exact ⟨a, vs, rfl, ers_sqT h h1, ers_drs h ds vs n h2⟩
  | .non, v, n, r => r
  | .bl _, v, n, r => r
  | .int _, v, n, r => r
  | .str _, v, n, r => r
  | .lst _, v, n, r => by cases n
  | .dk _ _, v, n, r => by cases n
  | .dt _ _, v, n, r => by cases n
  | .obj _ _ _, v, n, r => by cases n
  | .ad _, v, n, r => by cases n
  | .ptp _, v, n, r => by cases n
  | .etp _, v, n, r => by cases n
  | .exc _ _ _ _, v, n, r => by cases n
  | .ty _, v, n, r => by cases n
theorem ers_drs {K : PySem.W.Frag} {H : Hp} {as : List Addr} (h : NoTup K H as) : ∀ (ds : List D) (vs : List V), noTs ds = true → DRs K H ds vs → DRs K (ers H as) ds vs
  | [], vs, n, r => r
  | d :: ds, vs, n, r => by
    obtain ⟨v, w, rfl, h1, h2⟩ := r
    have n' : (noT d && noTs ds) = true := n
    rw [Bool.and_eq_true] at n'
    exact ⟨v, w, rfl, ers_dr h d v n'.1 h1, ers_drs h ds w n'.2 h2⟩
end
/-- an own thing is no tuple -/
theorem ocr_nt {K : PySem.W.Frag} {H' : Hp} : ∀ {c : OC} {o : HO}, OCR K H' c o → (∀ o2 xs, o ≠ .frz o2 (.tup xs)) ∧ ∀ xs, o ≠ .tup xs
  | .lst _, _, ⟨vs, h1, h2⟩ => by subst h1; exact ⟨fun _ _ z => by injection z, fun _ z => by injection z⟩
  | .dk _ _, _, ⟨vs, h1, h3, h2⟩ => by subst h1; exact ⟨fun _ _ z => by injection z, fun _ z => by injection z⟩
  | .dt _ _, _, ⟨vs, h1, h3, h2⟩ => by subst h1; exact ⟨fun _ _ z => by injection z, fun _ z => by injection z⟩
  | .fk _ _, _, ⟨vs, od, h1, h3, h2⟩ => by subst h1; exact ⟨fun _ _ z => by injection z with _ z; injection z, fun _ z => by injection z⟩
  | .ft _ _, _, ⟨vs, od, h1, h3, h2⟩ => by subst h1; exact ⟨fun _ _ z => by injection z with _ z; injection z, fun _ z => by injection z⟩
  | .ins _ _ _, _, ⟨vs, C, dx, h1, hn, h3, h2⟩ => by subst h1; exact ⟨fun _ _ z => by injection z, fun _ z => by injection z⟩
theorem ocr_tup {K : PySem.W.Frag} {H H' : Hp} {c : OC} {b : Addr} {o : HO} (h : OCR K H' c o) (e : H b = some o) (xs : List V) : ¬ Rd H b (.tup xs) := fun r => by
  have key := ocr_nt h
  rcases r with r | ⟨o2, r⟩
  · rw [e] at r; exact key.2 xs (Option.some.inj r)
  · rw [e] at r; exact key.1 o2 xs (Option.some.inj r)
section
variable {K : PySem.W.Frag} {B0 B H : Hp} {σ : L2.St} {i : Nat} {d : D}
theorem shareAllC : ∀ {cs : Cs} {H0 : Hp} {ρ : En}, J K B0 B σ H0 H ρ → ρ[i]? = some (.ox cs d) → ∃ H0', J K B0 B σ H0' H (ρ.set i (.sh d)) ∧ Same H0 H0' ∧ (∀ p ∈ cs, DR K H0' p.2.d (.ref p.1)) ∧ (∀ b, b ∉ pl cs → H0' b = H0 b) ∧ (∀ b ∈ pl cs, H0 b = none) ∧ ∀ p ∈ cs, ∃ o H2, H0' p.1 = some o ∧ OCR K H2 p.2 o
  | [], H0, ρ, j, h => by
    obtain ⟨ov, e1, h1, h2, h3⟩ := j.get h
    exact ⟨H0, j.setSl (s := .sh d) e1 h1 (fun a w => w.elim), Same.refl _, fun p hp => by simp at hp, fun _ _ => rfl, fun b hb => by simp at hb, fun p hp => by simp at hp⟩
  | (a, c) :: cs, H0, ρ, j, h => by
    obtain ⟨ov, e1, ⟨v, h1, h1'⟩, h2, h3⟩ := j.get h
    obtain ⟨o, f1, f2, f3, f4⟩ := j.cell h (List.mem_cons_self ..)
    have nd := List.nodup_cons.mp h3
    have s0 : Same H0 (upd H0 a o) := fun b u e => upd_keep e (fun z => by subst z; rw [f2] at e; cases e)
    obtain ⟨j1, s1⟩ := j.shareAt (s' := .ox cs d) (c := c) h e1 (List.mem_cons_self ..) f1 f4 (fun b w => ⟨List.mem_cons_of_mem _ w, fun z => nd.1 (z ▸ w)⟩) fun r => ⟨⟨v, h1, DR.mono s0 _ _ h1'⟩, fun p hp => by
      obtain ⟨ob, g2, g3, g4, g5⟩ := (h2 p (List.mem_cons_of_mem _ hp)).ex
      exact ⟨ob, g2, by rw [upd_ne (fun z => nd.1 (by rw [← z]; exact List.mem_map.mpr ⟨p, hp, rfl⟩))]; exact g3, g4, g5.mono s0⟩, nd.2⟩
    obtain ⟨H1, j3, s3, r3, n3, z3, o3⟩ := shareAllC (cs := cs) j1 (by rw [List.getElem?_set_self (List.getElem?_eq_some_iff.mp h).1])
    rw [List.set_set] at j3
    refine ⟨H1, j3, s1.trans s3, fun p hp => ?_, fun b hb => ?_, fun b hb => ?_, fun p hp => ?_⟩
    · rcases List.mem_cons.mp hp with rfl | hp
      · exact DR.mono s3 _ _ (OCR.dr f2 f4)
      · exact r3 p hp
    · have hb' : b ≠ a ∧ b ∉ pl cs := by simpa [pl] using hb
      rw [n3 b hb'.2, upd_ne hb'.1]
    · have hb' : b = a ∨ b ∈ pl cs := by simpa [pl] using hb
      rcases hb' with rfl | hb'
      · exact f2
      · have := z3 b hb'
        by_cases hba : b = a
        · subst hba; exact f2
        · rwa [upd_ne hba] at this
    · rcases List.mem_cons.mp hp with rfl | hp
      · exact ⟨o, _, s3 _ _ upd_same, f4⟩
      · exact o3 p hp
end
section
variable {X : Cx} {ρ : En} {e : Expr} {pos : Pos}
/-- an instance of tuples and plain things is made while the cells of slot i are shown -/
theorem eo_showI (i : Nat) (d' : D) {d0 : D} {cs : Cs} {cn : Str} {ns : List Str} {zs : List D} (hi : ρ[i]? = some (.ox cs d0)) (hd : ∀ (K : PySem.W.Frag) (H : Hp) v, (∀ p ∈ cs, DR K H p.2.d (.ref p.1)) → DR K H d0 v → DR K H d' v) (hz : noTs zs = true) (h : EO X (ρ.set i (.sh d')) e (.ins cn ns zs)) : EO X ρ e (.ins cn ns zs) := fun B0 B σ H0 H Q j kk => by
  obtain ⟨H1, j1, s1, r1, n1, z1, o1⟩ := shareAllC j hi
  have hl : i < σ.length := by rw [j.len]; exact (List.getElem?_eq_some_iff.mp hi).1
  obtain ⟨ov, e1, v, e2, r2⟩ := j1.get (i := i) (s := .sh d0) (by rw [List.getElem?_set_self (by rw [← j.len]; exact hl)])
  have j2 := j1.setSl (i := i) (s := .sh d') e1 ⟨v, e2, hd _ _ v r1 r2⟩ fun a w => w.elim
  rw [List.set_set] at j2
  refine h B0 B σ H1 H Q j2 fun a o G0 G g w1 w2 w3 w4 => kk a o (ers G0 (pl cs)) G (g.unshow s1 n1 z1) w1 ?_ w3 ?_
  · by_cases m : a ∈ pl cs
    · exact ers_in m
    · rw [ers_out m]; exact w2
  · obtain ⟨vs, C, dx, rfl, hC, hlen, r⟩ := w4
    refine ⟨vs, C, dx, rfl, hC, hlen, ers_drs (fun b hb xs => ?_) zs vs hz r⟩
    obtain ⟨p, hp, rfl⟩ := List.mem_map.mp hb
    obtain ⟨o2, H2, q1, q2⟩ := o1 p hp
    exact ocr_tup q2 (g.s0 _ _ q1) xs
end
theorem vals_snd {κ : Type} : ∀ {kvs : List (κ × V)} {xs : List (κ × Value)}, KV kvs xs → Vals (kvs.map (·.2)) (xs.map (·.2))
  | _, _, .nil => .nil
  | _, _, .cons h t => .cons h.2 (vals_snd t)
theorem items_snd {κ : Type} {xs : List (κ × Value)} {acc : Array Value} (h : ItemsOf (fun i v => ∃ k, xs[i]? = some (k, v)) acc xs.length) : acc.toList = xs.map (·.2) := by
  refine List.ext_getElem? fun i => ?_
  rw [List.getElem?_map]
  by_cases hi : i < xs.length
  · have ha : i < acc.toList.length := by rw [Array.length_toList]; have := h.1; omega
    have e : acc[i]? = some acc.toList[i] := by rw [← Array.getElem?_toList, List.getElem?_eq_getElem ha]
    obtain ⟨k, hk⟩ := h.2 i _ e
    rw [hk, List.getElem?_eq_getElem ha]; rfl
  · rw [List.getElem?_eq_none (by rw [Array.length_toList]; have := h.1; omega), List.getElem?_eq_none (by omega)]; rfl
section
variable {X : Cx} {ρ : En} {o : Expr} {p q1 pos cpos apos : Pos} {to : TE}
theorem pe_listVals (hc : X.calm = true) (hg : Gl X "list") (hm : X.mg "list" = none) (ho : PE X o to) (hbase : attributeBase o "values" X.env (eval o X.env) = eval o X.env := by rfl) (hline : (apos.endLine == cpos.line) = true := by rfl)
    (hs : starEach [.Call (.Attribute o "values" apos) [] [] cpos] X.env = [(false, eval (.Call (.Attribute o "values" apos) [] [] cpos) X.env)] := by rfl) :
    PE X (.Call (.Name "list" p) [.Call (.Attribute o "values" apos) [] [] cpos] [] pos) (fun σ H Q => to σ H fun x H1 => ∃ a kvs, x = V.ref a ∧ Rd H1 a (.dK kvs) ∧ ∀ r, H1 r = none → Q (.ref r) (upd H1 r (.lst (kvs.map (·.2))))) := by
  refine ⟨fun pins s σ H Q I h => ?_⟩
  refine Call_ (ld_blt I hg hm bb_list (PyProof.Rows.callWith_type1 (args_cons ?_) hs rfl))
  refine wpAny_Call_method (T := "dict") (id := "dict.values") hbase rfl hline F.plainAttrs_dict F.slot_dict_values F.type_dict_values (thn (ho.run pins s σ H _ I h) fun u s1 ⟨x, H1, I1, rx, a, kvs, ex, hd, qq⟩ => ?_)
  subst ex
  obtain rfl : u = Value.ref a := rx
  obtain ⟨z, lo, xs, rel, dd⟩ := dk_rd I1.hok hd
  have hl : xs.length ≤ sizeLine := by rw [← rel.length]; exact z
  obtain ⟨ob, es, ep, hob, hex, hdat, q5⟩ := id dd
  refine ⟨dd.typeIs, dd.mapOf.noDict, ?_⟩
  have I2 : Inv X pins σ H1 { s1 with heap := s1.heap.push { cls := .type "dict_values", data := .fields #[.ref a] } } := I1.kept (t' := s1.toks) fun b ob q => Heap.get?_push_of_some _ q
  show wpAny _ _ (callWith cpos (.builtin "dict.values") [.ref a] [] []) _ X.xe s1
  refine method_meetsIn F.slot_dict_values F.entry_dict_values rfl (PySem.evalArgs_none ⟨rfl, dd.typeIs, F.args_dict_values_1 _, _, meets_dict_values (mixKind X.prog X.w) a lo, ⟨xs, dd⟩, ?_⟩)
  refine args_nil ?_
  have at0 : Heap.DictAt (mixKind X.prog X.w) s1.heap a xs ep := ⟨ob, es, hob, hex, hdat, q5⟩
  refine PySem.W.kdl_call (PySem.W.kdl_values (knd := mixKind X.prog X.w) (kvs := xs) (ep := ep)) (I2.ok.hd hc) ⟨⟨_, Heap.get?_push_size _ rfl, rfl, rfl⟩, at0.push _⟩ hl fun h' tk acc c' hk hS hacc => ?_
  have hv : Vals (kvs.map (·.2)) acc.toList := by
    rw [items_snd hacc]; exact vals_snd rel
  exact ⟨.ref _, _, I2.laid (t' := tk) hk (Nat.le_refl _) (show ObjOk X.prog X.w _ h' _ (.lst (kvs.map (·.2))) from ⟨by rw [List.length_map]; exact z, acc.toList, c', hv, by simpa using hS⟩), rfl, qq _ (I2.hok.fresh (Nat.le_refl _))⟩
theorem eo_listVals (i m : Nat) {a0 : Addr} {cs : Cs} {d0 : D} {ks : List Key} {ds : List D} (hc : X.calm = true) (hg : Gl X "list") (hm : X.mg "list" = none) (hi : ρ[i]? = some (.ox cs d0)) (hcm : cs[m]? = some (a0, OC.dk ks ds)) (ho : ED X ρ o (.ad a0)) (hbase : attributeBase o "values" X.env (eval o X.env) = eval o X.env := by rfl) (hline : (apos.endLine == cpos.line) = true := by rfl)
    (hs : starEach [.Call (.Attribute o "values" apos) [] [] cpos] X.env = [(false, eval (.Call (.Attribute o "values" apos) [] [] cpos) X.env)] := by rfl) :
    EO X ρ (.Call (.Name "list" p) [.Call (.Attribute o "values" apos) [] [] cpos] [] pos) (.lst ds) := fun B0 B σ H0 H Q j k => by
  refine RE.of (pe_listVals hc hg hm pe_star hbase hline hs) (ho B0 B σ H0 H _ j fun v G0 G g r => ?_)
  cases (show v = .ref a0 from r)
  have j1 := j.grow g
  obtain ⟨ob, f1, f2, f3, vs, rfl, hl, f4⟩ := j1.cell hi (List.mem_iff_getElem?.mpr ⟨m, hcm⟩)
  refine ⟨a0, _, rfl, .inl f1, fun q hq => ?_⟩
  have e : (ks.zip vs).map (·.2) = vs := by rw [List.map_snd_zip (Nat.le_of_eq hl.symm)]
  rw [e]
  have g2 : JH G0 G G0 (upd G q (.lst vs)) := JH.own g.sh hq
  exact k q _ _ _ (g.trans g2) upd_same (g.sh.free hq) (g.sB.free hq) ⟨vs, rfl, f4⟩
end
theorem call_lenDkR {X : Cx} : CallR X (.builtin "len") (fun xs H Q => ∃ a kvs, xs = [V.ref a] ∧ Rd H a (.dK kvs) ∧ Q (.int kvs.length) H) := by
  intro pins s σ H vs us Q I r h
  obtain ⟨a, kvs, rfl, hd, q⟩ := h
  rw [Vals.ref1 r]
  exact d_len I hd fun t s' I' => ⟨.int kvs.length, H, I', ⟨t, rfl⟩, q⟩
theorem bc_lenDk {X : Cx} {ks : List Key} {ds : List D} : BC X (.builtin "len") [.dk ks ds] (.int ks.length) := bc_keep call_lenDkR _ (fun _ => rfl) fun H0 H vs _ s r q => by
  obtain ⟨x, rfl, h⟩ := r.one'
  obtain ⟨a, ws, rfl, h1, h2, h3⟩ := h
  refine ⟨a, _, rfl, Same.rd s h1, ?_⟩
  rw [List.length_zip, ← h2, Nat.min_self]; exact q
theorem bc_strS {X : Cx} {x : Str} : BC X (.type "str") [.str x] (.str x) := bc_keep SkE.call_str_str _ (fun _ => rfl) fun _ _ vs _ _ r q => by
  obtain ⟨y, rfl, h1⟩ := r.one'
  cases (show y = .str x from h1)
  exact ⟨x, rfl, q⟩
/-- C(), whose __init__ keeps its instance for the maker -/
theorem ec_make0 {X : Cx} {ρ : En} {pos : Pos} {cn : Str} {k : Nat} {R : RIL} {Ψ : Addr → Cs → Prop} {p : Pos} (G : FnIL X.prog X.w X.K X.mg X.base cn k R) (hr : Room (k + 1) X.A) (hg : Gl X cn) (hR : ∀ a, R a [] (Ψ a))
    (hdb : (cn == ("__debug__" : Str)) = false := by decide +kernel) : EC X ρ (.Call (.Name cn p) [] [] pos) Ψ := fun B0 B σ H0 H Q j kk => by
  obtain ⟨C, f, fd, ps, hC, hm, M, F, hb⟩ := G.ex
  refine RE.of (pe_make0 (E := E0) M F hr hg hm hb .nil pass0 hdb) ?_
  intro x dx hx hdx hne
  have g : JH H0 H H0 H := JH.refl j.same
  have g0x : H0 x = none := g.sh.free hx
  have g0d : H0 dx = none := g.sh.free hdx
  have s1 : Same H0 (upd (upd H dx (.own x)) x (.ins C dx [])) := fun b u q => by
    rw [upd_ne (ne_of_none q g0x), upd_ne (ne_of_none q g0d)]
    exact g.sh b u q
  have sE : Same H (er (upd (upd H dx (.own x)) x (.ins C dx [])) x) := fun b u q => by
    have n1 := ne_of_none q hx
    rw [er_ne n1, upd_ne n1, upd_ne (ne_of_none q hdx)]
    exact q
  refine ⟨H0, x, C, dx, [], [], Ψ x, rfl, hC, s1, upd_same, g0x, rfl, hR x, fun cs' L0 L w gg hc nd => ⟨rfl, ?_⟩⟩
  refine kk x cs' L0 L w ⟨gg.s0, gg.sh, sE.trans gg.sB, fun b u q nt q' => gg.fr b u (sE b u q) nt q'⟩ (fun p hp => ?_) nd
  obtain ⟨o, q1, q2, q3, q4⟩ := (hc p hp).ex
  exact ⟨o, q1, q2, sE.free q3, q4⟩
theorem ws_retP2 {X : Cx} {ρ : En} {e : Expr} {pos : Pos} {Ψ : D → En → Prop} {Φ : Out → Prop} (h : EP X ρ e Ψ) (hΦ : ∀ d ρ', Ψ d ρ' → Φ (.rt d)) : WS X (.Return (some e) pos) ρ Φ := fun B0 B σ H0 H Dn j k =>
  ⟨_, ps_ret pe_star, h B0 B σ H0 H _ j fun d ρ' v H0' H' w s1 j1 r => k _ (hΦ d ρ' w) v H0' H' j1.hp r⟩
end DL
namespace DL
open PySem PySem.Spec PyProof.Rows L2
structure RdI (i : Int) : Prop where
  b : 0 ≤ i ∧ i < 10 ^ 30
theorem RdI.sm {i : Int} (h : RdI i) : Sm i := ⟨by have := h.b; omega⟩
theorem RdI.tl {i : Int} (h : RdI i) : (stI i).cps.toList = TL.numL i.toNat := by
  have := h.b
  have e := TL.tl_num i.toNat
  rw [show ((i.toNat : Nat) : Int) = i by omega] at e
  exact e
theorem RdI.len {i : Int} (h : RdI i) : (stI i).length ≤ 30 := by
  have := h.b
  have e : (stI i).length = (stI i).cps.toList.length := by rw [Array.length_toList]; rfl
  rw [e, h.tl]
  exact TL.numL_len (by decide) (by omega)
theorem RdI.dig {i : Int} (h : RdI i) : ∀ c ∈ (stI i).cps.toList, 48 ≤ c ∧ c ≤ 57 := fun c hc => by
  rw [h.tl] at hc
  exact TL.numL_digits _ c hc
theorem RdI.ne {i : Int} (h : RdI i) : (stI i).cps.toList ≠ [] := by rw [h.tl]; exact TL.numL_ne _
theorem dig_uni : ∀ c : Fin 10, Unicode.isDigit (48 + c.val) = true := by decide +kernel
theorem RdI.isdigit {i : Int} (h : RdI i) : Txt.isdigit (stI i) = true := by
  unfold Txt.isdigit
  have h1 : 0 < (stI i).length := by
    have := List.length_pos_iff.mpr h.ne
    rwa [Array.length_toList] at this
  rw [Bool.and_eq_true, ← Array.all_toList]
  refine ⟨decide_eq_true h1, List.all_eq_true.mpr fun c hc => ?_⟩
  obtain ⟨a, b⟩ := h.dig c hc
  have := dig_uni ⟨c - 48, by omega⟩
  rwa [show 48 + (c - 48) = c by omega] at this
theorem RdI.int {i : Int} (h : RdI i) : PySem.intText? (stI i) = some i := by
  have hb := h.b
  have e := TL.int_num (n := i.toNat) (by rw [← h.tl, Array.length_toList]; have := h.len; exact Nat.le_trans this (by decide))
  rwa [show ((i.toNat : Nat) : Int) = i by omega] at e
theorem num_first : ∀ n : Nat, 0 < n → (TL.numL n).getD 0 0 ≠ 48 := fun n => by
  induction n using Nat.strongRecOn with
  | _ n ih =>
    intro hn
    by_cases h : n < 10
    · rw [TL.numL_lt h]; show 48 + n ≠ 48; omega
    · rw [TL.numL_step (by omega)]
      have h1 := ih (n / 10) (by omega) (by omega)
      have h2 := TL.numL_ne (n / 10)
      cases q : TL.numL (n / 10) with
      | nil => exact absurd q h2
      | cons c r => rw [q] at h1; exact h1
theorem sgn_0 {c : Nat} (h : sgn c = ("0" : Str)) : c = 48 := by
  have e := congrArg (fun z : Str => z.cps.toList) h
  have e0 : ("0" : Str).cps.toList = [48] := by decide +kernel
  simp only [e0] at e
  have : [c] = [48] := e
  simpa using this
theorem RdI.head {i : Int} (h : RdI i) : (decide (stI i = ("0" : Str)) || !decide (sgn ((stI i).cps.toList.getD 0 0) = ("0" : Str))) = true := by
  have hb := h.b
  by_cases h0 : i = 0
  · subst h0
    rw [show decide (stI 0 = ("0" : Str)) = true by decide +kernel]; rfl
  · rw [decide_eq_false (p := sgn ((stI i).cps.toList.getD 0 0) = ("0" : Str)) (fun e => by
      have := sgn_0 e
      rw [h.tl] at this
      exact num_first i.toNat (by omega) this)]
    simp
theorem sub_minus (x : Str) (h : x.cps.toList.getD 0 0 ≠ 45) : Txt.startswith x "-" = false := by
  rw [Bool.eq_false_iff]
  intro z
  unfold Txt.startswith at z
  rw [Bool.and_eq_true] at z
  have h1 : x.cps.extract 0 (0 + ("-" : Str).length) = ("-" : Str).cps := by
    have := z.2
    change (x.cps.extract 0 (0 + ("-" : Str).length) == ("-" : Str).cps) = true at this
    exact eq_of_beq this
  have e1 : ("-" : Str).length = 1 := by decide +kernel
  have e2 : ("-" : Str).cps.toList = [45] := by decide +kernel
  have h2 := congrArg Array.toList h1
  rw [e1, e2, Array.toList_extract] at h2
  cases q : x.cps.toList with
  | nil => rw [q] at h2; simp at h2
  | cons c r =>
    rw [q] at h h2
    simp [List.extract_eq_drop_take] at h2
    exact h h2
theorem RdI.starts {i : Int} (h : RdI i) : Txt.startswith (stI i) "-" = false := sub_minus _ (by
  have h1 := h.ne
  have h2 := h.dig
  cases q : (stI i).cps.toList with
  | nil => exact absurd q h1
  | cons c r =>
    have := h2 c (by rw [q]; exact List.mem_cons_self)
    show c ≠ 45; omega)
structure WOk (w : Str) : Prop where
  s : 32 ∉ TL.tl w
  l : 10 ∉ TL.tl w
  n : w.length ≤ 41
theorem RdI.w {i : Int} (h : RdI i) : WOk (stI i) := ⟨fun m => by have := h.dig 32 m; omega, fun m => by have := h.dig 10 m; omega, by have := h.len; omega⟩
theorem name_w {x : Str} (h : nameB x = true) : WOk x := by
  have hl := nameB_len h
  unfold nameB at h
  simp only [Bool.and_eq_true] at h
  have ha := List.all_eq_true.mp h.2.2
  refine ⟨fun m => ?_, fun m => ?_, by omega⟩
  · have := ha 32 m; revert this; decide
  · have := ha 10 m; revert this; decide
theorem lit_w : WOk "nets" ∧ WOk "name" ∧ WOk "device" ∧ WOk "n" ∧ WOk "p" := by
  refine ⟨⟨?_, ?_, ?_⟩, ⟨?_, ?_, ?_⟩, ⟨?_, ?_, ?_⟩, ⟨?_, ?_, ?_⟩, ⟨?_, ?_, ?_⟩⟩ <;> decide +kernel
def wN (n : Int) : List Str := ["nets", stI n]
def wQ (q : Nm) : List Str := ["name", q.2, stI q.1]
def wV (v : Dev) : List Str := ["device", v.k, stI v.g, stI v.a, stI v.b, stI v.w, stI v.l]
abbrev lnW (ws : List Str) : Str := Str.join " " ws
def wsC (n : Int) (N : List Nm) (V : List Dev) : List (List Str) := wN n :: (N.map wQ ++ V.map wV)
structure TxOk (n : Int) (N : List Nm) (V : List Dev) : Prop where
  ok : CirOk n N V
  w : ∀ v ∈ V, v.w < 10 ^ 30 ∧ v.l < 10 ^ 30
theorem rd_small {i n : Int} (h : 0 ≤ i ∧ i < n) (hn : n ≤ 200) : RdI i := ⟨by omega⟩
theorem TxOk.q {n : Int} {N : List Nm} {V : List Dev} (t : TxOk n N V) {q : Nm} (h : q ∈ N) : RdI q.1 ∧ nameB q.2 = true := ⟨rd_small (t.ok.nm q h).1 t.ok.nn.2, (t.ok.nm q h).2⟩
structure DvT (v : Dev) : Prop where
  k : v.k = ("n" : Str) ∨ v.k = ("p" : Str)
  g : RdI v.g
  a : RdI v.a
  b : RdI v.b
  w : RdI v.w
  l : RdI v.l
theorem TxOk.v {n : Int} {N : List Nm} {V : List Dev} (t : TxOk n N V) {v : Dev} (h : v ∈ V) : DvT v := by
  have o := t.ok.dv v h
  have hn := t.ok.nn
  have hw := t.w v h
  have := o.g; have := o.e; have := o.w; have := o.l
  exact ⟨o.k, ⟨by omega⟩, ⟨by omega⟩, ⟨by omega⟩, ⟨by omega⟩, ⟨by omega⟩⟩
theorem wQ_ok {q : Nm} (h : RdI q.1 ∧ nameB q.2 = true) : ∀ w ∈ wQ q, WOk w := fun w hw => by
  have : w = "name" ∨ w = q.2 ∨ w = stI q.1 := by simpa [wQ] using hw
  rcases this with rfl | rfl | rfl
  · exact lit_w.2.1
  · exact name_w h.2
  · exact h.1.w
theorem wV_ok {v : Dev} (h : DvT v) : ∀ w ∈ wV v, WOk w := fun w hw => by
  have : w = "device" ∨ w = v.k ∨ w = stI v.g ∨ w = stI v.a ∨ w = stI v.b ∨ w = stI v.w ∨ w = stI v.l := by simpa [wV] using hw
  rcases this with rfl | rfl | rfl | rfl | rfl | rfl | rfl
  · exact lit_w.2.2.1
  · rcases h.k with e | e <;> rw [e]
    · exact lit_w.2.2.2.1
    · exact lit_w.2.2.2.2
  · exact h.g.w
  · exact h.a.w
  · exact h.b.w
  · exact h.w.w
  · exact h.l.w
theorem wN_ok {n : Int} (h : RdI n) : ∀ w ∈ wN n, WOk w := fun w hw => by
  have : w = "nets" ∨ w = stI n := by simpa [wN] using hw
  rcases this with rfl | rfl
  · exact lit_w.1
  · exact h.w
theorem TxOk.n {n : Int} {N : List Nm} {V : List Dev} (t : TxOk n N V) : RdI n := ⟨by have := t.ok.nn; omega⟩
/-- words of a line -/
theorem TxOk.ws {n : Int} {N : List Nm} {V : List Dev} (t : TxOk n N V) {ws : List Str} (h : ws ∈ wsC n N V) : ws ≠ [] ∧ ws.length ≤ 7 ∧ ∀ w ∈ ws, WOk w := by
  unfold wsC at h
  rw [List.mem_cons, List.mem_append, List.mem_map, List.mem_map] at h
  rcases h with rfl | ⟨q, hq, rfl⟩ | ⟨v, hv, rfl⟩
  · exact ⟨by simp [wN], by simp [wN], wN_ok t.n⟩
  · exact ⟨by simp [wQ], by simp [wQ], wQ_ok (t.q hq)⟩
  · exact ⟨by simp [wV], by simp [wV], wV_ok (t.v hv)⟩
theorem mem_joinL {S : List Nat} {c : Nat} : ∀ {ps : List (List Nat)}, c ∈ TL.joinL S ps → c ∈ S ∨ ∃ p ∈ ps, c ∈ p
  | [], h => by cases h
  | [p], h => .inr ⟨p, List.mem_cons_self, h⟩
  | p :: q :: r, h => by
    have h' : c ∈ p ++ (S ++ TL.joinL S (q :: r)) := h
    rw [List.mem_append, List.mem_append] at h'
    rcases h' with h | h | h
    · exact .inr ⟨p, List.mem_cons_self, h⟩
    · exact .inl h
    · rcases mem_joinL h with h | ⟨x, hx, h⟩
      · exact .inl h
      · exact .inr ⟨x, List.mem_cons_of_mem _ hx, h⟩
theorem sep_tl : TL.tl (" " : Str) = [32] ∧ TL.tl ("\n" : Str) = [10] := by decide +kernel
theorem ln_free {ws : List Str} (h : ∀ w ∈ ws, WOk w) : 10 ∉ TL.tl (lnW ws) := fun m => by
  unfold lnW at m
  rw [TL.tl_join, sep_tl.1] at m
  rcases mem_joinL m with m | ⟨p, hp, m⟩
  · simp at m
  · obtain ⟨w, hw, rfl⟩ := List.mem_map.mp hp
    exact (h w hw).l m
theorem ln_split {ws : List Str} (hne : ws ≠ []) (h : ∀ w ∈ ws, WOk w) : Txt.split (lnW ws) " " = ws := by
  unfold lnW
  rw [← TL.join_eq]
  exact TL.split_join sep_tl.1 (by decide +kernel) hne fun w hw => (h w hw).s
def nm0 : Nm := (0, "")
def lastN (dn : List Nm) : Int := if dn.length = 0 then -1 else (dn.getD (dn.length - 1) nm0).1
theorem DvT.all {v : Dev} (h : DvT v) : ∀ i ∈ ([v.g, v.a, v.b, v.w, v.l] : List Int), RdI i := fun i hi => by
  have hi : i = v.g ∨ i = v.a ∨ i = v.b ∨ i = v.w ∨ i = v.l := by simpa using hi
  rcases hi with rfl | rfl | rfl | rfl | rfl
  · exact h.g
  · exact h.a
  · exact h.b
  · exact h.w
  · exact h.l
end DL
namespace DL
open PySem PySem.Spec PyProof.Rows L2
structure BDev where
  k : Str
  g : Str
  e : Str
  o : Str
  w : Int
  l : Int
def BDev.d (v : BDev) : D := .tup [.str v.k, .str v.g, .str v.e, .str v.o, .int v.w, .int v.l]
structure BUse where
  n : Str
  N : List Str
def BUse.d (u : BUse) : D := .tup [.str u.n, .tup (u.N.map .str)]
structure Blk where
  n : Str
  P : List Str
  V : List BDev
  U : List BUse
abbrev blkN : List Str := ["name", "ports", "devices", "uses"]
def blkV (b : Blk) : List D := [.str b.n, .tup (b.P.map .str), .tup (b.V.map BDev.d), .tup (b.U.map BUse.d)]
abbrev blkD (b : Blk) : D := .obj "Block" blkN (blkV b)
/-- a row of the law -/
abbrev rwB (b : Blk) : D := .tup [.str b.n, .lst (b.P.map .str), .lst (b.V.map BDev.d), .lst (b.U.map BUse.d)]
def BDev.ns (v : BDev) : List Str := [v.g, v.e, v.o]
def latB (b : Blk) : List Str := (b.V.map BDev.ns).flatten ++ (b.U.map (·.N)).flatten
def kS (x : Str) : Key := Sum.inr x
def stepS (σ : List Str) (v : Str) : List Str := if v ∈ σ then σ else σ ++ [v]
def ownB (b : Blk) : List Str := (latB b).foldl stepS b.P
theorem kS_inj {x y : Str} (h : kS x = kS y) : x = y := by cases h; rfl
theorem stepS_kS (σ : List Str) (v : Str) : stepK (σ.map kS) (kS v) = (stepS σ v).map kS := by
  unfold stepK stepS
  by_cases h : v ∈ σ
  · rw [if_pos h, if_pos (List.mem_map.mpr ⟨v, h, rfl⟩)]
  · rw [if_neg h, if_neg (fun m => h (by obtain ⟨y, hy, e⟩ := List.mem_map.mp m; exact kS_inj e ▸ hy)), List.map_append]; rfl
theorem foldS_kS : ∀ (ys σ : List Str), (ys.map kS).foldl stepK (σ.map kS) = (ys.foldl stepS σ).map kS
  | [], σ => rfl
  | y :: ys, σ => by rw [List.map_cons, List.foldl_cons, stepS_kS, foldS_kS ys]; rfl
theorem foldS_nodup : ∀ (ys σ : List Str), (σ ++ ys).Nodup → ys.foldl stepS σ = σ ++ ys
  | [], σ, _ => by simp
  | y :: ys, σ, h => by
    have hn : y ∉ σ := fun m => by
      have := (List.nodup_append.mp h).2.2 y m y List.mem_cons_self
      exact this rfl
    have e : stepS σ y = σ ++ [y] := if_neg hn
    rw [List.foldl_cons, e, foldS_nodup ys (σ ++ [y]) (by rw [List.append_assoc]; exact h), List.append_assoc]; rfl
/-- names that keep their first places -/
theorem own_ddK {b : Blk} (h : b.P.Nodup) : ddK ((b.P ++ latB b).map kS) = (ownB b).map kS := by
  unfold ddK ownB
  rw [show ([] : List Key) = ([] : List Str).map kS from rfl, foldS_kS, List.foldl_append, foldS_nodup b.P [] (by simpa using h)]
  rfl
theorem stepS_len (σ : List Str) (v : Str) : (stepS σ v).length ≤ σ.length + 1 := by
  unfold stepS; split <;> simp
structure SRow where
  b : Blk
  dc : Int
  uc : Int
  nc : Int
def nmsB (R : List SRow) : List Str := R.map fun x => x.b.n
def keyB (R : List SRow) : List Key := R.map fun x => Sum.inr x.b.n
def cntB (f : SRow → Int) (R : List SRow) (n : Str) : Int := ((R.find? fun x => decide (x.b.n = n)).map f).getD 0
def ptB (x : SRow) : Int := (x.b.P.length : Int)
def newB (R : List SRow) (b : Blk) : SRow := ⟨b, (b.V.length : Int) + (b.U.map fun u => cntB SRow.dc R u.n).sum, (b.U.length : Int) + (b.U.map fun u => cntB SRow.uc R u.n).sum, ((ownB b).length : Int) + (b.U.map fun u => cntB SRow.nc R u.n - cntB ptB R u.n).sum⟩
def stepB (R : List SRow) (b : Blk) : List SRow := R ++ [newB R b]
def libB (bs : List Blk) : List SRow := bs.foldl stepB []
theorem libB_snoc (bs : List Blk) (b : Blk) : libB (bs ++ [b]) = stepB (libB bs) b := by unfold libB; rw [List.foldl_append]; rfl
theorem stepB_key (R : List SRow) (b : Blk) : keyB (stepB R b) = keyB R ++ [Sum.inr b.n] := by simp [stepB, keyB, newB]
theorem libB_rw (bs : List Blk) : (libB bs).map (·.b) = bs := by
  refine snoc_ind (P := fun bs => (libB bs).map (·.b) = bs) rfl (fun l x ih => ?_) bs
  rw [libB_snoc]; unfold stepB; rw [List.map_append, ih]; rfl
theorem libB_nms (bs : List Blk) : nmsB (libB bs) = bs.map (·.n) := by
  unfold nmsB
  conv => rhs; rw [← libB_rw bs]
  rw [List.map_map]; rfl
theorem libB_len (bs : List Blk) : (libB bs).length = bs.length := by
  have := congrArg List.length (libB_rw bs)
  rwa [List.length_map] at this
theorem keyB_len (R : List SRow) : (keyB R).length = R.length := by simp [keyB]
theorem mem_keyB {R : List SRow} {n : Str} : (Sum.inr n : Key) ∈ keyB R ↔ n ∈ nmsB R := by
  unfold keyB nmsB
  simp only [List.mem_map]
  exact ⟨fun ⟨x, h, e⟩ => ⟨x, h, by cases e; rfl⟩, fun ⟨x, h, e⟩ => ⟨x, h, by rw [e]⟩⟩
theorem has_keyB {R : List SRow} {n : Str} : hasK (keyB R) (Sum.inr n) = true ↔ n ∈ nmsB R := by rw [hasK_iff, mem_keyB]
theorem lkB_find {g : SRow → D} {n : Str} : ∀ {R : List SRow}, lookK (keyB R) (R.map g) (Sum.inr n) = (R.find? fun x => decide (x.b.n = n)).map g
  | [] => rfl
  | x :: R => by
    show lookK (Sum.inr x.b.n :: keyB R) (g x :: R.map g) (Sum.inr n) = _
    unfold lookK
    by_cases e : x.b.n = n
    · rw [if_pos (by rw [e]), List.find?_cons, decide_eq_true e]; rfl
    · rw [if_neg (fun z => e (by cases z; rfl)), List.find?_cons, decide_eq_false e]
      exact lkB_find
theorem findB_mem {R : List SRow} {n : Str} (h : n ∈ nmsB R) : ∃ x, x ∈ R ∧ x.b.n = n ∧ R.find? (fun x => decide (x.b.n = n)) = some x := by
  cases hf : R.find? (fun x => decide (x.b.n = n)) with
  | some x => exact ⟨x, List.mem_of_find?_eq_some hf, by simpa using List.find?_some hf, rfl⟩
  | none =>
    obtain ⟨x, hx, e⟩ := List.mem_map.mp h
    exact absurd e (by simpa using List.find?_eq_none.mp hf x hx)
/-- the block that stands under a name -/
def atB (R : List SRow) (n : Str) : SRow := (R.find? fun x => decide (x.b.n = n)).getD ⟨⟨n, [], [], []⟩, 0, 0, 0⟩
theorem lkB_at {g : SRow → D} {R : List SRow} {n : Str} (h : n ∈ nmsB R) : lookK (keyB R) (R.map g) (Sum.inr n) = some (g (atB R n)) := by
  obtain ⟨x, _, _, hf⟩ := findB_mem h
  rw [lkB_find]; unfold atB; rw [hf]; rfl
theorem cntB_at' {f : SRow → Int} {R : List SRow} {n : Str} (h : n ∈ nmsB R) : cntB f R n = f (atB R n) := by
  obtain ⟨x, _, _, hf⟩ := findB_mem h
  unfold cntB atB; rw [hf]; rfl
theorem lkB_cnt {f : SRow → Int} {R : List SRow} {n : Str} (h : n ∈ nmsB R) : lookK (keyB R) (R.map fun x => D.int (f x)) (Sum.inr n) = some (.int (cntB f R n)) := by
  rw [lkB_at h, cntB_at' h]
abbrev schN : List Str := ["_blocks", "_device_counts", "_net_counts", "_use_counts"]
def schF (R : List SRow) : List D := [.dk (keyB R) (R.map fun x => blkD x.b), .dk (keyB R) (R.map fun x => .int x.dc), .dk (keyB R) (R.map fun x => .int x.nc), .dk (keyB R) (R.map fun x => .int x.uc)]
abbrev schD (R : List SRow) : D := .obj "Schematic" schN (schF R)
def schC (a p q s t : Addr) (R : List SRow) : Cs := [(a, .ins "Schematic" schN [.ad p, .ad q, .ad s, .ad t]), (p, .dk (keyB R) (R.map fun x => blkD x.b)), (q, .dk (keyB R) (R.map fun x => .int x.dc)), (s, .dk (keyB R) (R.map fun x => .int x.nc)), (t, .dk (keyB R) (R.map fun x => .int x.uc))]
/-- four dicts of an instance, shown -/
theorem sch_show {K : PySem.W.Frag} {H : Hp} {a p q s t : Addr} {k1 k2 k3 k4 : List Key} {d1 d2 d3 d4 : List D} (v : V) (h : ∀ x ∈ ([(a, .ins "Schematic" schN [.ad p, .ad q, .ad s, .ad t]), (p, .dk k1 d1), (q, .dk k2 d2), (s, .dk k3 d3), (t, .dk k4 d4)] : Cs), DR K H x.2.d (.ref x.1)) (r : DR K H (.ad a) v) : DR K H (.obj "Schematic" schN [.dk k1 d1, .dk k2 d2, .dk k3 d3, .dk k4 d4]) v := by
  cases (show v = .ref a from r)
  refine obj_imp (h (a, .ins "Schematic" schN [.ad p, .ad q, .ad s, .ad t]) (by simp)) rfl fun i d e h1 h2 u w => ?_
  match i, h1, h2 with
  | 0, h1, h2 => cases h1; cases h2; cases (show u = .ref p from w); exact h (p, .dk k1 d1) (by simp)
  | 1, h1, h2 => cases h1; cases h2; cases (show u = .ref q from w); exact h (q, .dk k2 d2) (by simp)
  | 2, h1, h2 => cases h1; cases h2; cases (show u = .ref s from w); exact h (s, .dk k3 d3) (by simp)
  | 3, h1, h2 => cases h1; cases h2; cases (show u = .ref t from w); exact h (t, .dk k4 d4) (by simp)
  | i + 4, h1, h2 => simp at h1
/-- a block by itself -/
structure BkOk (b : Blk) : Prop where
  n : nameB b.n = true
  p : ∀ x ∈ b.P, nameB x = true
  d : b.P.Nodup
  v : ∀ v ∈ b.V, v.k ∈ (["n", "p"] : List Str) ∧ (∀ x ∈ v.ns, nameB x = true) ∧ 1 ≤ v.w ∧ 1 ≤ v.l
  u : ∀ u ∈ b.U, nameB u.n = true ∧ ∀ x ∈ u.N, nameB x = true
  few : b.P.length ≤ 10 ∧ b.V.length ≤ 10 ∧ b.U.length ≤ 10
  fu : ∀ u ∈ b.U, u.N.length ≤ 10
/-- a block that may stand behind the ones before -/
structure CanB (R : List SRow) (b : Blk) : Prop where
  new : b.n ∉ nmsB R
  old : ∀ u ∈ b.U, u.n ∈ nmsB R
  pt : ∀ u ∈ b.U, (u.N.length : Int) = cntB ptB R u.n
def SchOk (bs : List Blk) : Prop := ∀ (k : Nat) b, bs[k]? = some b → CanB (libB (bs.take k)) b ∧ BkOk b
theorem flat_lenB {α β : Type} (f : α → List β) (m : Nat) : ∀ (xs : List α), (∀ x ∈ xs, (f x).length ≤ m) → (xs.map f).flatten.length ≤ m * xs.length
  | [], _ => by simp
  | x :: xs, h => by
    have h1 := flat_lenB f m xs fun y hy => h y (List.mem_cons_of_mem _ hy)
    have h2 := h x List.mem_cons_self
    simp only [List.map_cons, List.flatten_cons, List.length_append, List.length_cons, Nat.mul_add, Nat.mul_one]; omega
theorem dev_len {b : Blk} (ok : BkOk b) (i : Nat) : ((b.V.take i).map BDev.ns).flatten.length ≤ 30 := by
  have h := flat_lenB BDev.ns 3 (b.V.take i) fun _ _ => Nat.le_refl _
  have := ok.few
  rw [List.length_take] at h
  have := Nat.min_le_right i b.V.length
  omega
theorem use_len {b : Blk} (ok : BkOk b) (i : Nat) : ((b.U.take i).map (·.N)).flatten.length ≤ 100 := by
  have h := flat_lenB (·.N) 10 (b.U.take i) fun u hu => ok.fu u (List.mem_of_mem_take hu)
  have := ok.few
  rw [List.length_take] at h
  have := Nat.min_le_right i b.U.length
  omega
theorem lat_len {b : Blk} (ok : BkOk b) : (latB b).length ≤ 130 := by
  have h1 := dev_len ok b.V.length
  have h2 := use_len ok b.U.length
  rw [List.take_length] at h1 h2
  unfold latB; rw [List.length_append]; omega
theorem flat_snoc {α β : Type} {f : α → List β} {xs : List α} {i : Nat} {x : α} (h : xs[i]? = some x) : ((xs.take (i + 1)).map f).flatten = ((xs.take i).map f).flatten ++ f x := by
  rw [List.take_add_one, h]; simp
theorem kS_D (xs : List Str) : (xs.map kS).map kD = xs.map D.str := by rw [List.map_map]; rfl
theorem libB_pre (bs : List Blk) : ∀ cs, ∃ T, libB (bs ++ cs) = libB bs ++ T := by
  intro cs
  refine snoc_ind (P := fun cs => ∃ T, libB (bs ++ cs) = libB bs ++ T) ⟨[], by simp⟩ (fun l x ih => ?_) cs
  obtain ⟨T, e⟩ := ih
  refine ⟨T ++ [newB (libB bs ++ T) x], ?_⟩
  rw [← List.append_assoc, libB_snoc, e, stepB, List.append_assoc]
theorem libB_get {bs : List Blk} {k : Nat} {b : Blk} (h : bs[k]? = some b) : (libB bs)[k]? = some (newB (libB (bs.take k)) b) := by
  have hk := (List.getElem?_eq_some_iff.mp h).1
  obtain ⟨T, e⟩ := libB_pre (bs.take (k + 1)) (bs.drop (k + 1))
  rw [List.take_append_drop] at e
  have e2 : bs.take (k + 1) = bs.take k ++ [b] := by rw [List.take_add_one, h]; rfl
  rw [e, e2, libB_snoc, stepB, List.append_assoc, List.getElem?_append_right (by rw [libB_len, List.length_take]; omega)]
  have : k - (libB (bs.take k)).length = 0 := by rw [libB_len, List.length_take]; omega
  rw [this]; rfl
theorem schOk_nodup {bs : List Blk} (h : SchOk bs) : (bs.map (·.n)).Nodup := by
  have : ∀ k, ((bs.take k).map (·.n)).Nodup := fun k => by
    induction k with
    | zero => simp
    | succ k ih =>
      rw [List.take_add_one]
      cases e : bs[k]? with
      | none => simpa using ih
      | some b =>
        have hn := (h k b e).1.new
        rw [libB_nms] at hn
        simp only [Option.toList, List.map_append, List.map_cons, List.map_nil]
        refine List.nodup_append.mpr ⟨ih, by simp, fun x hx y hy e => ?_⟩
        rw [List.mem_singleton] at hy
        subst hy; subst e; exact hn hx
  have := this bs.length
  rwa [List.take_length] at this
theorem cntB_get {bs : List Blk} {k : Nat} {b : Blk} {f : SRow → Int} (ok : SchOk bs) (h : bs[k]? = some b) : cntB f (libB bs) b.n = f (newB (libB (bs.take k)) b) := by
  have hg := libB_get h
  have nd : (nmsB (libB bs)).Nodup := by rw [libB_nms]; exact schOk_nodup ok
  have hm : b.n ∈ nmsB (libB bs) := List.mem_map.mpr ⟨_, List.mem_of_getElem? hg, rfl⟩
  obtain ⟨y, hy, e, hf⟩ := findB_mem hm
  obtain ⟨j, hj⟩ := List.getElem?_of_mem hy
  have h1 : (nmsB (libB bs))[k]? = some b.n := by unfold nmsB; rw [List.getElem?_map, hg]; rfl
  have h2 : (nmsB (libB bs))[j]? = some b.n := by unfold nmsB; rw [List.getElem?_map, hj, ← e]; rfl
  have : k = j := (List.getElem?_inj (List.getElem?_eq_some_iff.mp h1).1 nd).mp (h1.trans h2.symm)
  subst this
  rw [hg] at hj; cases hj
  unfold cntB; rw [hf]; rfl
theorem nm_in {bs : List Blk} {k : Nat} {b : Blk} (h : bs[k]? = some b) : b.n ∈ nmsB (libB bs) := by
  rw [libB_nms]; exact List.mem_map.mpr ⟨b, List.mem_of_getElem? h, rfl⟩
/-- one more row keeps the order -/
theorem schOk_snoc {bs : List Blk} {b : Blk} (h : SchOk bs) (c : CanB (libB bs) b) (o : BkOk b) : SchOk (bs ++ [b]) := fun k x hx => by
  by_cases hk : k < bs.length
  · rw [List.getElem?_append_left hk] at hx
    rw [List.take_append_of_le_length (Nat.le_of_lt hk)]
    exact h k x hx
  · rw [List.getElem?_append_right (by omega)] at hx
    have h0 : k - bs.length = 0 := by
      have := (List.getElem?_eq_some_iff.mp hx).1
      simp at this; omega
    rw [h0] at hx
    cases hx
    have : k = bs.length := by omega
    rw [this, List.take_left]
    exact ⟨c, o⟩
theorem schOk_nil : SchOk [] := fun k b h => by simp at h
def pool7 : List Str := ["a", "b", "c", "y", "n1", "vdd", "gnd"]
def plS (d : Int) : Str := pool7.getD (d % 7).toNat "a"
theorem pool_ok : ∀ i : Fin 7, nameB (pool7.getD i.val "a") = true := by decide +kernel
theorem plS_ok (d : Int) : nameB (plS d) = true := pool_ok ⟨(d % 7).toNat, by omega⟩
theorem stepS_nodup {σ : List Str} {v : Str} (h : σ.Nodup) : (stepS σ v).Nodup := by
  unfold stepS
  split
  · exact h
  · next hn => exact List.nodup_append.mpr ⟨h, by simp, fun x hx y hy e => by rw [List.mem_singleton] at hy; subst hy; subst e; exact hn hx⟩
theorem stepS_mem {σ : List Str} {v x : Str} (h : x ∈ stepS σ v) : x ∈ σ ∨ x = v := by
  unfold stepS at h
  split at h
  · exact .inl h
  · simpa using h
def bD (ns : List Int) (f : Int) (k : Nat) (i : Int) : Int := dr (cellAt ns (f + (k : Int))) 50 i
def ptQ (E : Int → Int) : Nat → List Str
  | 0 => []
  | j + 1 => stepS (ptQ E j) (plS (E (1 + (j : Int))))
theorem ptQ_nodup (E : Int → Int) : ∀ j, (ptQ E j).Nodup
  | 0 => by simp [ptQ]
  | j + 1 => stepS_nodup (ptQ_nodup E j)
theorem ptQ_len (E : Int → Int) : ∀ j, (ptQ E j).length ≤ j
  | 0 => by simp [ptQ]
  | j + 1 => by have h1 := ptQ_len E j; have h2 := stepS_len (ptQ E j) (plS (E (1 + (j : Int)))); show (stepS _ _).length ≤ _; omega
theorem ptQ_ok (E : Int → Int) : ∀ j, ∀ x ∈ ptQ E j, nameB x = true
  | 0, x, h => by simp [ptQ] at h
  | j + 1, x, h => (stepS_mem h).elim (ptQ_ok E j x) fun e => e ▸ plS_ok _
def dvQ (E : Int → Int) (j : Nat) : BDev := ⟨kindOf (E (6 + 6 * (j : Int) + 0)), plS (E (6 + 6 * (j : Int) + 1)), plS (E (6 + 6 * (j : Int) + 2)), plS (E (6 + 6 * (j : Int) + 3)), 1 + E (6 + 6 * (j : Int) + 4) % 3, 1 + E (6 + 6 * (j : Int) + 4) / 3 % 2⟩
def bk0 : Blk := ⟨"a", [], [], []⟩
def usQ (E : Int → Int) (rows : List Blk) (k j : Nat) : BUse := ⟨(rows.getD (E (31 + (j : Int)) % (k : Int)).toNat bk0).n, (List.range (rows.getD (E (31 + (j : Int)) % (k : Int)).toNat bk0).P.length).map fun (i : Nat) => plS (E (33 + 5 * (j : Int) + (i : Int)))⟩
def unQ (E : Int → Int) (k : Nat) : Nat := (min (k : Int) (E 30 % 3)).toNat
def dvsQ (E : Int → Int) (j : Nat) : List BDev := (List.range j).map (dvQ E)
def ussQ (E : Int → Int) (rows : List Blk) (k j : Nat) : List BUse := (List.range j).map (usQ E rows k)
theorem dvsQ_succ (E : Int → Int) (j : Nat) : dvsQ E (j + 1) = dvsQ E j ++ [dvQ E j] := by unfold dvsQ; rw [List.range_succ, List.map_append]; rfl
theorem ussQ_succ (E : Int → Int) (rows : List Blk) (k j : Nat) : ussQ E rows k (j + 1) = ussQ E rows k j ++ [usQ E rows k j] := by unfold ussQ; rw [List.range_succ, List.map_append]; rfl
theorem dvsQ_len (E : Int → Int) (j : Nat) : (dvsQ E j).length = j := by unfold dvsQ; rw [List.length_map, List.length_range]
theorem ussQ_len (E : Int → Int) (rows : List Blk) (k j : Nat) : (ussQ E rows k j).length = j := by unfold ussQ; rw [List.length_map, List.length_range]
def bkQ (E : Int → Int) (rows : List Blk) (k : Nat) : Blk := ⟨qStr (E 49) k, ptQ E (E 0 % 4).toNat, dvsQ E (E 5 % 4).toNat, ussQ E rows k (unQ E k)⟩
def qBs (ns : List Int) (f : Int) : Nat → List Blk
  | 0 => []
  | k + 1 => qBs ns f k ++ [bkQ (bD ns f k) (qBs ns f k) k]
theorem qBs_len (ns : List Int) (f : Int) : ∀ k, (qBs ns f k).length = k
  | 0 => rfl
  | k + 1 => by rw [qBs, List.length_append, qBs_len ns f k]; rfl
theorem qBs_nm (ns : List Int) (f : Int) : ∀ k, ∀ b ∈ qBs ns f k, ∃ d j, j < k ∧ b.n = qStr d j
  | 0, b, h => by simp [qBs] at h
  | k + 1, b, h => by
    rw [qBs, List.mem_append] at h
    rcases h with h | h
    · obtain ⟨d, j, h1, h2⟩ := qBs_nm ns f k b h; exact ⟨d, j, by omega, h2⟩
    · rw [List.mem_singleton] at h; subst h; exact ⟨_, k, by omega, rfl⟩
theorem unQ_le (E : Int → Int) (k : Nat) : unQ E k ≤ 2 ∧ unQ E k ≤ k := by
  unfold unQ
  have h1 := Int.emod_lt_of_pos (E 30) (b := 3) (by decide)
  constructor <;> omega
theorem mod_nat (z : Int) {k : Nat} (h : 0 < k) : (z % (k : Int)).toNat < k := by
  have h1 := Int.emod_nonneg z (b := (k : Int)) (by omega)
  have h2 := Int.emod_lt_of_pos z (b := (k : Int)) (by omega)
  omega
theorem gD_mem {α : Type} {xs : List α} {i : Nat} {a : α} (h : i < xs.length) : xs[i]? = some (xs.getD i a) := by
  rw [List.getD_eq_getElem?_getD, List.getElem?_eq_getElem h]; rfl
theorem kind_in (r : Int) : kindOf r ∈ (["n", "p"] : List Str) := by unfold kindOf; split <;> decide
theorem bkQ_ok (E : Int → Int) {rows : List Blk} {k : Nat} (hk : k < 64) (hr : ∀ b ∈ rows, BkOk b) (hl : rows.length = k) : BkOk (bkQ E rows k) := by
  have h0 := Int.emod_nonneg (E 0) (b := 4) (by decide)
  have h1 := Int.emod_lt_of_pos (E 0) (b := 4) (by decide)
  have h2 := Int.emod_nonneg (E 5) (b := 4) (by decide)
  have h3 := Int.emod_lt_of_pos (E 5) (b := 4) (by decide)
  have hu := unQ_le E k
  have hp := ptQ_len E (E 0 % 4).toNat
  refine ⟨qStr_ok _ hk, ptQ_ok E _, ptQ_nodup E _, fun v hv => ?_, fun u h => ?_, ⟨?_, ?_, ?_⟩, fun u h => ?_⟩
  · obtain ⟨j, _, rfl⟩ := List.mem_map.mp hv
    refine ⟨kind_in _, fun x hx => ?_, ?_, ?_⟩
    · have : x = plS (E (6 + 6 * (j : Int) + 1)) ∨ x = plS (E (6 + 6 * (j : Int) + 2)) ∨ x = plS (E (6 + 6 * (j : Int) + 3)) := by simpa [BDev.ns, dvQ] using hx
      rcases this with rfl | rfl | rfl <;> exact plS_ok _
    · show 1 ≤ 1 + E (6 + 6 * (j : Int) + 4) % 3; omega
    · show 1 ≤ 1 + E (6 + 6 * (j : Int) + 4) / 3 % 2; omega
  · obtain ⟨j, hj, rfl⟩ := List.mem_map.mp h
    have hj' := List.mem_range.mp hj
    have hm := gD_mem (a := bk0) (show (E (31 + (j : Int)) % (k : Int)).toNat < rows.length by rw [hl]; exact mod_nat _ (by omega))
    refine ⟨(hr _ (List.mem_of_getElem? hm)).n, fun x hx => ?_⟩
    obtain ⟨i, _, rfl⟩ := List.mem_map.mp hx
    exact plS_ok _
  · show (ptQ _ _).length ≤ 10; omega
  · show (dvsQ _ _).length ≤ 10; rw [dvsQ_len]; omega
  · show (ussQ _ _ _ _).length ≤ 10; rw [ussQ_len]; omega
  · obtain ⟨j, hj, rfl⟩ := List.mem_map.mp h
    have hj' := List.mem_range.mp hj
    have hm := gD_mem (a := bk0) (show (E (31 + (j : Int)) % (k : Int)).toNat < rows.length by rw [hl]; exact mod_nat _ (by omega))
    show (List.map _ _).length ≤ 10
    rw [List.length_map, List.length_range]
    exact (hr _ (List.mem_of_getElem? hm)).few.1
/-- a use of a row before -/
theorem pt_of {rows : List Blk} (ok : SchOk rows) {i : Nat} (h : i < rows.length) : (rows.getD i bk0).n ∈ nmsB (libB rows) ∧ ((rows.getD i bk0).P.length : Int) = cntB ptB (libB rows) (rows.getD i bk0).n := by
  have hm := gD_mem (a := bk0) h
  exact ⟨nm_in hm, by rw [cntB_get ok hm]; rfl⟩
theorem bkQ_can (E : Int → Int) {rows : List Blk} {k : Nat} (hk : k < 64) (ok : SchOk rows) (hl : rows.length = k) (hn : ∀ b ∈ rows, ∃ d j, j < k ∧ b.n = qStr d j) : CanB (libB rows) (bkQ E rows k) := by
  have hu := unQ_le E k
  refine ⟨fun h => ?_, fun u h => ?_, fun u h => ?_⟩
  · rw [libB_nms, List.mem_map] at h
    obtain ⟨b, hb, e⟩ := h
    obtain ⟨d, j, hj, e2⟩ := hn b hb
    have := qStr_inj (n := j) (n' := k) (by omega) hk (e2.symm.trans e)
    omega
  · obtain ⟨j, hj, rfl⟩ := List.mem_map.mp h
    have hj' := List.mem_range.mp hj
    exact (pt_of ok (by rw [hl]; exact mod_nat _ (by omega))).1
  · obtain ⟨j, hj, rfl⟩ := List.mem_map.mp h
    have hj' := List.mem_range.mp hj
    have := (pt_of ok (i := (E (31 + (j : Int)) % (k : Int)).toNat) (by rw [hl]; exact mod_nat _ (by omega))).2
    show (((List.map _ _).length : Nat) : Int) = _
    rw [List.length_map, List.length_range]
    exact this
theorem qBs_ok (ns : List Int) (f : Int) : ∀ k, k ≤ 60 → SchOk (qBs ns f k) ∧ ∀ b ∈ qBs ns f k, BkOk b
  | 0, _ => ⟨schOk_nil, fun b h => by simp [qBs] at h⟩
  | k + 1, hk => by
    obtain ⟨h1, h2⟩ := qBs_ok ns f k (by omega)
    have o := bkQ_ok (bD ns f k) (by omega) h2 (qBs_len ns f k)
    refine ⟨schOk_snoc h1 (bkQ_can _ (by omega) h1 (qBs_len ns f k) (qBs_nm ns f k)) o, fun b h => ?_⟩
    rw [qBs, List.mem_append] at h
    rcases h with h | h
    · exact h2 b h
    · rw [List.mem_singleton] at h; subst h; exact o
theorem pre_all8 : ∀ a : Fin 26, ∀ b : Fin 6, cutS ((⟨#[ltr.cps.toList.getD a.val 0]⟩ : Str) ++ tls.getD b.val "") none (some 8) = cutS ((⟨#[ltr.cps.toList.getD a.val 0]⟩ : Str) ++ tls.getD b.val "") none (some 7) := by decide +kernel
theorem cut8 (d : Int) : cutS (nmOf d) none (some 8) = nmPre d := by
  have h1 : (d % 26).toNat < 26 := by omega
  have h2 : (d / 26 % 6).toNat < 6 := by omega
  exact pre_all8 ⟨_, h1⟩ ⟨_, h2⟩
theorem cut6 {c M lo : Int} (h0 : 0 ≤ lo) (h : lo + 6 ≤ M) : cutD ((draws c M).map D.int) (some lo) (some (lo + 6)) = [.int (dr c M (lo + 0)), .int (dr c M (lo + 1)), .int (dr c M (lo + 2)), .int (dr c M (lo + 3)), .int (dr c M (lo + 4)), .int (dr c M (lo + 5))] := by
  have hl : ((draws c M).map D.int).length = M.toNat := by rw [List.length_map, draws_len]
  have e1 : HT.sIx ((draws c M).map D.int).length 0 (some lo) = lo.toNat := by
    rw [hl]
    show (if lo < 0 then _ else min lo.toNat M.toNat) = _
    rw [if_neg (by omega)]; omega
  have e2 : HT.sIx ((draws c M).map D.int).length ((draws c M).map D.int).length (some (lo + 6)) = lo.toNat + 6 := by
    rw [hl]
    show (if lo + 6 < 0 then _ else min (lo + 6).toNat M.toNat) = _
    rw [if_neg (by omega)]; omega
  unfold cutD
  rw [e1, e2, show lo.toNat + 6 - lo.toNat = 6 by omega]
  refine List.ext_getElem? fun i => ?_
  by_cases hi : i < 6
  · rw [List.getElem?_take_of_lt hi, List.getElem?_drop, List.getElem?_map]
    have : (draws c M)[lo.toNat + i]? = some (dr c M (lo + (i : Int))) := by
      have := dr_get (c := c) (n := M) (k := lo + (i : Int)) (by omega) (by omega)
      rw [show (lo + (i : Int)).toNat = lo.toNat + i by omega] at this
      exact this
    rw [this]
    match i, hi with
    | 0, _ => rfl
    | 1, _ => rfl
    | 2, _ => rfl
    | 3, _ => rfl
    | 4, _ => rfl
    | 5, _ => rfl
  · rw [List.getElem?_eq_none (by simp; omega), List.getElem?_eq_none (by simp; omega)]
theorem kS_nodup {xs : List Str} (h : xs.Nodup) : (xs.map kS).Nodup := List.pairwise_map.mpr (h.imp fun hne e => hne (kS_inj e))
theorem nm_size {x : Str} (h : nameB x = true) : x.length ≤ sizeLine := by have := name_1000 h; rw [sizeLine_eq]; omega
theorem all_nm {xs : List Str} (h : ∀ x ∈ xs, nameB x = true) : (xs.map nameB).all id = true := by rw [List.all_map]; exact List.all_eq_true.mpr h
theorem q8_len (d : Int) : (cutS (nmOf d) none (some 8)).length + (Str.ofString "k").length ≤ sizeLine := by
  rw [cut8]; exact q1_len d
theorem q9_len (d : Int) {n : Nat} (h : n < 64) : (cutS (nmOf d) none (some 8) ++ Str.ofString "k").length + (Str.ofString (toString (n : Int))).length ≤ sizeLine := by
  rw [cut8]; exact q2_len d h
theorem ptQ_new {E : Int → Int} {j : Nat} (h : plS (E (1 + (j : Int))) ∉ ptQ E j) : ptQ E (j + 1) = ptQ E j ++ [plS (E (1 + (j : Int)))] := if_neg h
theorem ptQ_old {E : Int → Int} {j : Nat} (h : plS (E (1 + (j : Int))) ∈ ptQ E j) : ptQ E (j + 1) = ptQ E j := if_pos h
theorem qBs_P (ns : List Int) {f : Int} {k j : Nat} (hk : k ≤ 60) (h : j < k) : ((qBs ns f k).getD j bk0).P.length ≤ 10 :=
  ((qBs_ok ns f k hk).2 _ (List.mem_of_getElem? (gD_mem (a := bk0) (by rw [qBs_len]; exact h)))).few.1
end DL
namespace DL
open PySem PySem.Spec PyProof.Rows L2
section
variable {X : Cx} {ρ : En} {Φ : Out → Prop} {e a b : Expr} {pos : Pos} {d : D} {rest : List Stmt}
/-- for x in xs: the slots by the turn, by something that is there (g) and by what one doesn't care for (u) -/
theorem ws_forX {α U γ : Type} {tg iter : Expr} {ds : List D} (xs : List α) (enc : α → D) {body : List Stmt} (hc : X.calm = true) (hi : ID X ρ tg iter ds) (he : ds = xs.map enc) (G : Nat → γ → U → List (Nat × Sl)) (V : En → U) (P : Nat → γ → Prop) (g0 : γ) (hρ : upds ρ (G 0 g0 (V ρ)) = ρ) (h0 : P 0 g0)
    (hs : ∀ i x g u, xs[i]? = some x → P i g → ∃ is ρ'', DG X is tg (enc x) (upds ρ (G i g u)) ρ'' ∧ WSs X body ρ'' (fun o => match o with | .nx r => ∃ g', upds ρ (G (i + 1) g' (V r)) = r ∧ P (i + 1) g' | .ct r => ∃ g', upds ρ (G (i + 1) g' (V r)) = r ∧ P (i + 1) g' | .bk r => Φ (.nx r) | .rt v => Φ (.rt v) | .ro c => Φ (.ro c) | .rc v cs => Φ (.rc v cs)))
    (hd : ∀ g u, P xs.length g → Φ (.nx (upds ρ (G xs.length g u))))
    (hp : PassesOwn (model X.prog X.w) X.A X.env X.xe := by exact PassesOwn.never) (hf : ∀ x, foldedSetIterable iter X.env x = pure x := by intro _; rfl) : WS X (.For tg iter body [] pos) ρ Φ := by
  refine ws_forT xs enc hc hi he (fun i r => ∃ g, (∃ u, upds ρ (G i g u) = r) ∧ P i g) ⟨g0, ⟨V ρ, hρ⟩, h0⟩ (fun i x r hx hI => ?_) (fun r hI => ?_) hp hf
  · obtain ⟨g, ⟨u, rfl⟩, p⟩ := hI
    obtain ⟨is, r2, h1, h2⟩ := hs i x g u hx p
    refine ⟨is, r2, h1, ws_mono h2 fun o ho => ?_⟩
    cases o with
    | nx r => obtain ⟨g', e1, e2⟩ := ho; exact ⟨g', ⟨_, e1⟩, e2⟩
    | ct r => obtain ⟨g', e1, e2⟩ := ho; exact ⟨g', ⟨_, e1⟩, e2⟩
    | bk r => exact ho
    | rt v => exact ho
    | ro c => exact ho
    | rc v cs => exact ho
  · obtain ⟨g, ⟨u, rfl⟩, p⟩ := hI
    exact hd g u p
end
end DL
namespace DL
open PySem PySem.Spec PyProof.Rows L2
inductive Ln where
  | b (b : Blk)
  | d (v : BDev)
  | u (u : BUse)
def Ln.hd : Ln → Str
  | .b _ => "block"
  | .d _ => "device"
  | .u _ => "use"
/-- the words, as they stand in the program -/
def Ln.wd : Ln → List (Str ⊕ Int)
  | .b x => .inl "block" :: .inl x.n :: x.P.map .inl
  | .d x => [.inl "device", .inl x.k, .inl x.g, .inl x.e, .inl x.o, .inr x.w, .inr x.l]
  | .u x => .inl "use" :: .inl x.n :: x.N.map .inl
def wdE : Str ⊕ Int → D
  | .inl x => .str x
  | .inr i => .int i
def wdT : Str ⊕ Int → Str
  | .inl x => x
  | .inr i => stI i
def Ln.ws : Ln → List Str
  | .b x => "block" :: x.n :: x.P
  | .d x => ["device", x.k, x.g, x.e, x.o, stI x.w, stI x.l]
  | .u x => "use" :: x.n :: x.N
def lnsB (b : Blk) : List Ln := .b b :: (b.V.map .d ++ b.U.map .u)
def lnsT (bs : List Blk) : List Ln := (bs.map lnsB).flatten
theorem lnsT_snoc (bs : List Blk) (b : Blk) : lnsT (bs ++ [b]) = lnsT bs ++ lnsB b := by unfold lnsT; simp
def txS (bs : List Blk) : Str := Str.join "\n" ((lnsT bs).map fun l => lnW l.ws)
structure BLs where
  D : List Blk
  c : Option Blk
def stL (s : BLs) : Ln → BLs
  | .b b => ⟨s.D ++ s.c.toList, some ⟨b.n, b.P, [], []⟩⟩
  | .d v => ⟨s.D, s.c.map fun c => ⟨c.n, c.P, c.V ++ [v], c.U⟩⟩
  | .u u => ⟨s.D, s.c.map fun c => ⟨c.n, c.P, c.V, c.U ++ [u]⟩⟩
def runL (ls : List Ln) : BLs := ls.foldl stL ⟨[], none⟩
theorem runL_snoc (ls : List Ln) (l : Ln) : runL (ls ++ [l]) = stL (runL ls) l := by unfold runL; rw [List.foldl_append]; rfl
/-- a device that may be written and read -/
def DvS (v : BDev) : Prop := (v.k ∈ (["n", "p"] : List Str) ∧ (∀ x ∈ v.ns, nameB x = true) ∧ 1 ≤ v.w ∧ 1 ≤ v.l) ∧ RdI v.w ∧ RdI v.l
structure TxS (bs : List Blk) : Prop where
  ok : SchOk bs
  bk : ∀ b ∈ bs, BkOk b
  w : ∀ b ∈ bs, ∀ v ∈ b.V, v.w < 10 ^ 30 ∧ v.l < 10 ^ 30
  few : bs.length ≤ 60
theorem TxS.dv {bs : List Blk} (t : TxS bs) {b : Blk} (hb : b ∈ bs) {v : BDev} (h : v ∈ b.V) : DvS v := by
  have h1 := (t.bk b hb).v v h
  have h2 := t.w b hb v h
  exact ⟨h1, ⟨by have := h1.2.2.1; omega⟩, ⟨by have := h1.2.2.2; omega⟩⟩
/-- what is asked of the next line -/
def LOk (s : BLs) : Ln → Prop
  | .b b => (∀ c ∈ s.c.toList, BkOk c ∧ c.n ∉ nmsB (libB s.D)) ∧ (s.D ++ s.c.toList).length < 60 ∧ b.n ∉ nmsB (libB (s.D ++ s.c.toList)) ∧ nameB b.n = true ∧ (∀ x ∈ b.P, nameB x = true) ∧ b.P.Nodup ∧ b.P.length ≤ 10
  | .d v => ∃ c, s.c = some c ∧ c.U = [] ∧ c.V.length < 10 ∧ DvS v
  | .u u => ∃ c, s.c = some c ∧ c.U.length < 10 ∧ u.n ∈ nmsB (libB s.D) ∧ (u.N.length : Int) = cntB ptB (libB s.D) u.n ∧ u.N.length ≤ 10 ∧ nameB u.n = true ∧ ∀ x ∈ u.N, nameB x = true
theorem run_dev (D : List Blk) (n : Str) (P : List Str) : ∀ (V W : List BDev) (s : BLs), s = ⟨D, some ⟨n, P, W, []⟩⟩ → (V.map Ln.d).foldl stL s = ⟨D, some ⟨n, P, W ++ V, []⟩⟩
  | [], W, s, h => by rw [h]; simp
  | v :: V, W, s, h => by
    rw [List.map_cons, List.foldl_cons, run_dev D n P V (W ++ [v]) _ (by rw [h]; rfl), List.append_assoc]; rfl
theorem run_use (D : List Blk) (n : Str) (P : List Str) (V : List BDev) : ∀ (U W : List BUse) (s : BLs), s = ⟨D, some ⟨n, P, V, W⟩⟩ → (U.map Ln.u).foldl stL s = ⟨D, some ⟨n, P, V, W ++ U⟩⟩
  | [], W, s, h => by rw [h]; simp
  | v :: U, W, s, h => by
    rw [List.map_cons, List.foldl_cons, run_use D n P V U (W ++ [v]) _ (by rw [h]; rfl), List.append_assoc]; rfl
/-- a part of a block's lines, behind whole blocks -/
theorem run_part {s : BLs} {b : Blk} {V : List BDev} {U : List BUse} : ((.b b :: (V.map Ln.d ++ U.map Ln.u)) : List Ln).foldl stL s = ⟨s.D ++ s.c.toList, some ⟨b.n, b.P, V, U⟩⟩ := by
  rw [List.foldl_cons, List.foldl_append, run_dev (s.D ++ s.c.toList) b.n b.P V [] (stL s (.b b)) rfl, run_use (s.D ++ s.c.toList) b.n b.P V U [] _ (by rw [List.nil_append]), List.nil_append]
theorem run_full (bs : List Blk) : (runL (lnsT bs)).D ++ (runL (lnsT bs)).c.toList = bs := by
  refine snoc_ind (P := fun bs => (runL (lnsT bs)).D ++ (runL (lnsT bs)).c.toList = bs) rfl (fun l x ih => ?_) bs
  rw [lnsT_snoc]
  unfold runL at ih ⊢
  rw [List.foldl_append]
  unfold lnsB
  rw [run_part, ih]; rfl
/-- the block that stands open is one of those before -/
theorem run_cur {bs : List Blk} (t : TxS bs) : ∀ c ∈ (runL (lnsT bs)).c.toList, BkOk c ∧ c.n ∉ nmsB (libB (runL (lnsT bs)).D) := by
  intro c hc
  have h := run_full bs
  have hcb : c ∈ bs := by rw [← h]; exact List.mem_append_right _ hc
  refine ⟨t.bk c hcb, fun m => ?_⟩
  have nd := schOk_nodup t.ok
  rw [← h, List.map_append] at nd
  rw [libB_nms] at m
  exact (List.nodup_append.mp nd).2.2 _ m _ (List.mem_map.mpr ⟨c, hc, rfl⟩) rfl
theorem TxS.take {bs : List Blk} (t : TxS bs) (k : Nat) : TxS (bs.take k) := by
  refine ⟨fun i b h => ?_, fun b h => t.bk b (List.mem_of_mem_take h), fun b h => t.w b (List.mem_of_mem_take h), by rw [List.length_take]; have := t.few; omega⟩
  have hi : i < k := by
    have := (List.getElem?_eq_some_iff.mp h).1
    rw [List.length_take] at this; omega
  rw [List.getElem?_take_of_lt hi] at h
  have := t.ok i b h
  rw [List.take_take, Nat.min_eq_left (Nat.le_of_lt hi)]
  exact this
theorem take_mapd {V : List BDev} {U : List BUse} {j : Nat} (h : j ≤ V.length) : ((V.map Ln.d ++ U.map Ln.u)).take j = (V.take j).map Ln.d := by
  rw [List.take_append_of_le_length (by rw [List.length_map]; exact h), List.map_take]
theorem take_mapu {V : List BDev} {U : List BUse} {j : Nat} (h : V.length ≤ j) : ((V.map Ln.d ++ U.map Ln.u)).take j = V.map Ln.d ++ (U.take (j - V.length)).map Ln.u := by
  rw [List.take_append, List.take_of_length_le (by rw [List.length_map]; exact h), List.length_map, List.map_take]
/-- every line may stand where it stands -/
theorem lines_ok : ∀ (bs : List Blk), TxS bs → ∀ (i : Nat) l, (lnsT bs)[i]? = some l → LOk (runL ((lnsT bs).take i)) l := by
  intro bs
  refine snoc_ind (P := fun bs => TxS bs → ∀ (i : Nat) l, (lnsT bs)[i]? = some l → LOk (runL ((lnsT bs).take i)) l) (fun _ i l h => by simp [lnsT] at h) (fun bs b ih t i l h => ?_) bs
  have tp : TxS bs := by have := t.take bs.length; rwa [List.take_left] at this
  have hbm : b ∈ bs ++ [b] := by simp
  have hbi : (bs ++ [b])[bs.length]? = some b := by rw [List.getElem?_append_right (Nat.le_refl _), Nat.sub_self]; rfl
  have hc := t.ok bs.length b hbi
  rw [List.take_left] at hc
  have okb := t.bk b hbm
  have hfew := t.few
  rw [List.length_append] at hfew
  rw [lnsT_snoc] at h ⊢
  by_cases hi : i < (lnsT bs).length
  · rw [List.getElem?_append_left hi] at h
    rw [List.take_append_of_le_length (Nat.le_of_lt hi)]
    exact ih tp i l h
  · rw [List.getElem?_append_right (by omega)] at h
    have et : (lnsT bs ++ lnsB b).take i = lnsT bs ++ (lnsB b).take (i - (lnsT bs).length) := by
      rw [List.take_append, List.take_of_length_le (by omega)]
    rw [et]
    generalize i - (lnsT bs).length = j at h
    have hr := run_full bs
    have hcu := run_cur tp
    unfold runL at hr hcu ⊢
    rw [List.foldl_append]
    match j, h with
    | 0, h =>
      have : l = .b b := by unfold lnsB at h; simpa using h.symm
      subst this
      show LOk ((lnsT bs).foldl stL ⟨[], none⟩) (.b b)
      refine ⟨hcu, ?_, ?_, okb.n, okb.p, okb.d, okb.few.1⟩
      · rw [hr]; simp at hfew; omega
      · rw [hr]; exact hc.1.new
    | j + 1, h =>
      unfold lnsB at h ⊢
      rw [List.getElem?_cons_succ] at h
      rw [List.take_succ_cons]
      by_cases hj : j < b.V.length
      · rw [List.getElem?_append_left (by rw [List.length_map]; exact hj), List.getElem?_map, List.getElem?_eq_getElem hj] at h
        have : l = .d b.V[j] := by simpa using h.symm
        subst this
        rw [take_mapd (Nat.le_of_lt hj), show (b.V.take j).map Ln.d = (b.V.take j).map Ln.d ++ ([] : List BUse).map Ln.u by simp, run_part]
        exact ⟨_, rfl, rfl, by show (b.V.take j).length < 10; rw [List.length_take]; have := okb.few; omega, t.dv hbm (List.getElem_mem hj)⟩
      · rw [List.getElem?_append_right (by rw [List.length_map]; omega), List.length_map, List.getElem?_map] at h
        have hju : j - b.V.length < b.U.length := by
          refine Classical.byContradiction fun z => ?_
          rw [List.getElem?_eq_none (by omega)] at h
          cases h
        rw [List.getElem?_eq_getElem hju] at h
        have : l = .u b.U[j - b.V.length] := by simpa using h.symm
        subst this
        have hum := List.getElem_mem hju
        rw [take_mapu (by omega), run_part]
        refine ⟨_, rfl, by show (b.U.take _).length < 10; rw [List.length_take]; have := okb.few; omega, ?_, ?_, okb.fu _ hum, (okb.u _ hum).1, (okb.u _ hum).2⟩
        · show _ ∈ nmsB (libB (_ ++ _)); rw [hr]; exact hc.1.old _ hum
        · show _ = cntB ptB (libB (_ ++ _)) _; rw [hr]; exact hc.1.pt _ hum
abbrev blN : List Str := ["_completed", "_name", "_ports", "_devices", "_uses"]
def nmO : Option Blk → D
  | none => .non
  | some c => .str c.n
def ptO : Option Blk → List Str
  | none => []
  | some c => c.P
def dvO : Option Blk → List BDev
  | none => []
  | some c => c.V
def usO : Option Blk → List BUse
  | none => []
  | some c => c.U
def blC (a p q r : Addr) (D : List Blk) (c : Option Blk) : Cs := [(a, .ins "BlockList" blN [.ad p, nmO c, .lst ((ptO c).map .str), .ad q, .ad r]), (p, .dk (keyB (libB D)) ((libB D).map fun x => blkD x.b)), (q, .lst ((dvO c).map BDev.d)), (r, .lst ((usO c).map BUse.d))]
theorem bl_show {K : PySem.W.Frag} {H : Hp} {a p q r : Addr} {k1 : List Key} {e1 e2 e3 : List D} {d1 d2 : D} (v : V) (h : ∀ x ∈ ([(a, .ins "BlockList" blN [.ad p, d1, d2, .ad q, .ad r]), (p, .dk k1 e1), (q, .lst e2), (r, .lst e3)] : Cs), DR K H x.2.d (.ref x.1)) (w : DR K H (.ad a) v) : DR K H (.obj "BlockList" blN [.dk k1 e1, d1, d2, .lst e2, .lst e3]) v := by
  cases (show v = .ref a from w)
  refine obj_imp (h (a, .ins "BlockList" blN [.ad p, d1, d2, .ad q, .ad r]) (by simp)) rfl fun i d e h1 h2 u w => ?_
  match i, h1, h2 with
  | 0, h1, h2 => cases h1; cases h2; cases (show u = .ref p from w); exact h (p, .dk k1 e1) (by simp)
  | 1, h1, h2 => cases h1; cases h2; exact w
  | 2, h1, h2 => cases h1; cases h2; exact w
  | 3, h1, h2 => cases h1; cases h2; cases (show u = .ref q from w); exact h (q, .lst e2) (by simp)
  | 4, h1, h2 => cases h1; cases h2; cases (show u = .ref r from w); exact h (r, .lst e3) (by simp)
  | i + 5, h1, h2 => simp at h1
theorem blk_noT (c : Blk) : noTs (blkV c) = true := by
  show (true && (noTs (c.P.map .str) && (noTs (c.V.map BDev.d) && (noTs (c.U.map BUse.d) && true)))) = true
  rw [noTs_map (fun _ => rfl), noTs_map (fun _ => rfl), noTs_map (fun u => by show (true && (noTs (u.N.map .str) && true)) = true; rw [noTs_map (fun _ => rfl)]; rfl)]; rfl
theorem nmO_some {c : Option Blk} (h : (!isNon (nmO c)) = true) : ∃ b, c = some b := by
  cases c with
  | none => cases h
  | some b => exact ⟨b, rfl⟩
theorem nmO_none {c : Option Blk} (h : (!isNon (nmO c)) = false) : c = none := by
  cases c with
  | none => rfl
  | some b => cases h
theorem libB_keys (D : List Blk) (c : Blk) : keyB (libB (D ++ [c])) = keyB (libB D) ++ [Sum.inr c.n] := by rw [libB_snoc, stepB_key]
theorem libB_vals (D : List Blk) (c : Blk) : ((libB (D ++ [c])).map fun x => blkD x.b) = ((libB D).map fun x => blkD x.b) ++ [blkD c] := by rw [libB_snoc, stepB, List.map_append]; rfl
theorem libB_bs (D : List Blk) : ((libB D).map fun x => blkD x.b) = D.map blkD := by
  conv => rhs; rw [← libB_rw D]
  rw [List.map_map]; rfl
theorem lit_ne : decide (("device" : Str) = ("block" : Str)) = false ∧ decide (("use" : Str) = ("block" : Str)) = false ∧ decide (("block" : Str) = ("device" : Str)) = false ∧ decide (("use" : Str) = ("device" : Str)) = false ∧ decide (("block" : Str) = ("use" : Str)) = false ∧ decide (("device" : Str) = ("use" : Str)) = false := by decide +kernel
theorem hd_b {l : Ln} {k : Bool} (h : (decide (l.hd = ("block" : Str)) && k) = true) : ∃ b, l = .b b := by
  cases l with
  | b b => exact ⟨b, rfl⟩
  | d v => change (decide (("device" : Str) = ("block" : Str)) && k) = true at h; rw [lit_ne.1] at h; cases h
  | u u => change (decide (("use" : Str) = ("block" : Str)) && k) = true at h; rw [lit_ne.2.1] at h; cases h
theorem hd_d {l : Ln} {k : Bool} (h : (decide (l.hd = ("device" : Str)) && k) = true) : ∃ v, l = .d v := by
  cases l with
  | d v => exact ⟨v, rfl⟩
  | b b => change (decide (("block" : Str) = ("device" : Str)) && k) = true at h; rw [lit_ne.2.2.1] at h; cases h
  | u u => change (decide (("use" : Str) = ("device" : Str)) && k) = true at h; rw [lit_ne.2.2.2.1] at h; cases h
theorem hd_u {l : Ln} {k : Bool} (h : (decide (l.hd = ("use" : Str)) && k) = true) : ∃ u, l = .u u := by
  cases l with
  | u u => exact ⟨u, rfl⟩
  | b b => change (decide (("block" : Str) = ("use" : Str)) && k) = true at h; rw [lit_ne.2.2.2.2.1] at h; cases h
  | d v => change (decide (("device" : Str) = ("use" : Str)) && k) = true at h; rw [lit_ne.2.2.2.2.2] at h; cases h
theorem ln_len2 (l : Ln) : 2 ≤ l.ws.length := by
  cases l <;> simp [Ln.ws]
theorem ln_hd (l : Ln) : ∃ r, l.ws = l.hd :: r := by
  cases l with
  | b b => exact ⟨_, rfl⟩
  | d v => exact ⟨_, rfl⟩
  | u u => exact ⟨_, rfl⟩
/-- one of the three -/
theorem hd_one (l : Ln) (h1 : (decide (l.hd = ("block" : Str)) && decide ((2 : Int) ≤ (l.ws.length : Int))) = false) (h2 : (decide (l.hd = ("device" : Str)) && decide ((l.ws.length : Int) = 7)) = false) (h3 : (decide (l.hd = ("use" : Str)) && decide ((2 : Int) ≤ (l.ws.length : Int))) = false) : False := by
  have hl := ln_len2 l
  have e : decide ((2 : Int) ≤ (l.ws.length : Int)) = true := decide_eq_true (by omega)
  cases l with
  | b b =>
    rw [e, Bool.and_true] at h1
    exact (of_decide_eq_false h1) rfl
  | d v =>
    have : decide (((Ln.d v).ws.length : Int) = 7) = true := decide_eq_true rfl
    rw [this, Bool.and_true] at h2
    exact (of_decide_eq_false h2) rfl
  | u u =>
    rw [e, Bool.and_true] at h3
    exact (of_decide_eq_false h3) rfl
theorem new_bl {Z : List Blk} {n : Str} (h : Z.length < 60) (hn : n ∉ nmsB (libB Z)) : ((!hasK (keyB (libB Z)) (Sum.inr n)) && decide (((keyB (libB Z)).length : Int) < 60)) = true := by
  have h1 : hasK (keyB (libB Z)) (Sum.inr n) = false := by
    cases e : hasK (keyB (libB Z)) (Sum.inr n) with
    | false => rfl
    | true => exact absurd (has_keyB.mp e) hn
  rw [h1, keyB_len, libB_len, decide_eq_true (show (Z.length : Int) < 60 by omega)]; rfl
theorem lit2_w : WOk "block" ∧ WOk "use" := by
  refine ⟨⟨?_, ?_, ?_⟩, ⟨?_, ?_, ?_⟩⟩ <;> decide +kernel
/-- what a line holds may be written -/
def WLn : Ln → Prop
  | .b b => nameB b.n = true ∧ (∀ x ∈ b.P, nameB x = true) ∧ b.P.length ≤ 10
  | .d v => DvS v
  | .u u => nameB u.n = true ∧ (∀ x ∈ u.N, nameB x = true) ∧ u.N.length ≤ 10
theorem LOk.w {s : BLs} {l : Ln} (h : LOk s l) : WLn l := by
  cases l with
  | b b => obtain ⟨_, _, _, h1, h2, _, h3⟩ := h; exact ⟨h1, h2, h3⟩
  | d v => obtain ⟨_, _, _, _, h1⟩ := h; exact h1
  | u u => obtain ⟨_, _, _, _, _, h1, h2, h3⟩ := h; exact ⟨h2, h3, h1⟩
theorem WLn.ok {l : Ln} (h : WLn l) : l.ws ≠ [] ∧ l.ws.length ≤ 12 ∧ ∀ w ∈ l.ws, WOk w := by
  cases l with
  | b b =>
    obtain ⟨h1, h2, h3⟩ := h
    refine ⟨by simp [Ln.ws], by simp only [Ln.ws, List.length_cons]; omega, fun w hw => ?_⟩
    have : w = "block" ∨ w = b.n ∨ w ∈ b.P := by simpa [Ln.ws] using hw
    rcases this with rfl | rfl | hw
    · exact lit2_w.1
    · exact name_w h1
    · exact name_w (h2 w hw)
  | d v =>
    obtain ⟨⟨h1, h2, _⟩, h3, h4⟩ := h
    refine ⟨by simp [Ln.ws], by simp [Ln.ws], fun w hw => ?_⟩
    have : w = "device" ∨ w = v.k ∨ w = v.g ∨ w = v.e ∨ w = v.o ∨ w = stI v.w ∨ w = stI v.l := by simpa [Ln.ws] using hw
    rcases this with rfl | rfl | rfl | rfl | rfl | rfl | rfl
    · exact lit_w.2.2.1
    · have : v.k = "n" ∨ v.k = "p" := by simpa using h1
      rcases this with e | e <;> rw [e]
      · exact lit_w.2.2.2.1
      · exact lit_w.2.2.2.2
    · exact name_w (h2 _ (by simp [BDev.ns]))
    · exact name_w (h2 _ (by simp [BDev.ns]))
    · exact name_w (h2 _ (by simp [BDev.ns]))
    · exact h3.w
    · exact h4.w
  | u u =>
    obtain ⟨h1, h2, h3⟩ := h
    refine ⟨by simp [Ln.ws], by simp only [Ln.ws, List.length_cons]; omega, fun w hw => ?_⟩
    have : w = "use" ∨ w = u.n ∨ w ∈ u.N := by simpa [Ln.ws] using hw
    rcases this with rfl | rfl | hw
    · exact lit2_w.2
    · exact name_w h1
    · exact name_w (h2 w hw)
theorem ln_len12 {ws : List Str} (h : ∀ w ∈ ws, WOk w) (hl : ws.length ≤ 12) : (lnW ws).length ≤ 504 := by
  have h0 := join_len " " ws
  have h1 := sumL_le (k := 41) (zs := ws) fun w hw => (h w hw).n
  have := lens.2.2.2.1
  rw [this] at h0
  unfold lnW
  have : 41 * ws.length ≤ 41 * 12 := Nat.mul_le_mul_left _ hl
  omega
theorem TxS.ln {bs : List Blk} (t : TxS bs) {l : Ln} (h : l ∈ lnsT bs) : WLn l := by
  obtain ⟨i, hi⟩ := List.getElem?_of_mem h
  exact (lines_ok bs t i l hi).w
theorem lnsB_len {b : Blk} (ok : BkOk b) : (lnsB b).length ≤ 21 := by
  have := ok.few
  simp only [lnsB, List.length_cons, List.length_append, List.length_map]; omega
theorem lnsT_len {bs : List Blk} (t : TxS bs) : (lnsT bs).length ≤ 1260 := by
  have h : ∀ xs : List Blk, (∀ b ∈ xs, BkOk b) → (lnsT xs).length ≤ 21 * xs.length := fun xs => by
    induction xs with
    | nil => intro _; simp [lnsT]
    | cons x xs ih =>
      intro hx
      have h1 := ih fun b hb => hx b (List.mem_cons_of_mem _ hb)
      have h2 := lnsB_len (hx x List.mem_cons_self)
      unfold lnsT at h1 ⊢
      rw [List.map_cons, List.flatten_cons, List.length_append, List.length_cons]
      omega
  have := h bs t.bk
  have := t.few
  omega
theorem txS_room {bs : List Blk} (t : TxS bs) : sumL ((lnsT bs).map fun l => lnW l.ws) + ((lnsT bs).map fun l => lnW l.ws).length * ("\n" : Str).length ≤ 640000 := by
  have h1 := sumL_le (k := 504) (zs := (lnsT bs).map fun l => lnW l.ws) fun z hz => by
    obtain ⟨l, hl, rfl⟩ := List.mem_map.mp hz
    have := (t.ln hl).ok
    exact ln_len12 this.2.2 this.2.1
  have h2 := lnsT_len t
  rw [List.length_map] at h1 ⊢
  have := lens.2.2.2.2.2
  rw [this]
  have : 504 * (lnsT bs).length ≤ 504 * 1260 := Nat.mul_le_mul_left _ h2
  omega
theorem txS_len {bs : List Blk} (t : TxS bs) : (txS bs).length ≤ 640000 := Nat.le_trans (join_len _ _) (txS_room t)
theorem txS_split {bs : List Blk} (t : TxS bs) (hne : lnsT bs ≠ []) : Txt.split (txS bs) "\n" = (lnsT bs).map fun l => lnW l.ws := by
  unfold txS
  rw [← TL.join_eq]
  refine TL.split_join sep_tl.2 (by decide +kernel) (by simpa using hne) fun p hp => ?_
  obtain ⟨l, hl, rfl⟩ := List.mem_map.mp hp
  exact ln_free (t.ln hl).ok.2.2
theorem join_head (a x : Str) (r : List Str) : x.length ≤ (Str.join a (x :: r)).length := by
  cases r with
  | nil => exact Nat.le_refl _
  | cons y r => show x.length ≤ (x ++ a ++ Str.join a (y :: r)).length; rw [app_len, app_len]; omega
theorem ln_pos (l : Ln) : 0 < (lnW l.ws).length := by
  obtain ⟨r, e⟩ := ln_hd l
  have h := join_head " " l.hd r
  have hp : 0 < l.hd.length := by
    cases l with
    | b b => exact (show 0 < ("block" : Str).length by decide +kernel)
    | d v => exact (show 0 < ("device" : Str).length by decide +kernel)
    | u u => exact (show 0 < ("use" : Str).length by decide +kernel)
  unfold lnW
  rw [e]; omega
theorem txS_ne {bs : List Blk} (h : lnsT bs ≠ []) : txS bs ≠ "" := fun e => by
  unfold txS at e
  cases q : lnsT bs with
  | nil => exact h q
  | cons l r =>
    rw [q, List.map_cons] at e
    have h1 := join_head "\n" (lnW l.ws) (r.map fun l => lnW l.ws)
    rw [e] at h1
    have h2 := ln_pos l
    have : ("" : Str).length = 0 := by decide +kernel
    omega
theorem txS_if {bs : List Blk} (t : TxS bs) : (if (!decide (txS bs = ("" : Str))) = true then D.lst ((Txt.split (txS bs) "\n").map .str) else D.lst []) = D.lst (((lnsT bs).map fun l => lnW l.ws).map .str) := by
  by_cases h : lnsT bs = []
  · have e : txS bs = "" := by unfold txS; rw [h]; decide +kernel
    rw [decide_eq_true e, h]; rfl
  · rw [decide_eq_false (txS_ne h), txS_split t h]; rfl
def l0 : Ln := .b bk0
theorem txS_enum {bs : List Blk} : enumK 1 (((lnsT bs).map fun l => lnW l.ws).map .str) = (List.range (lnsT bs).length).map fun (i : Nat) => D.tup [.int (((1 : Nat) : Int) + (i : Int)), .str (lnW ((lnsT bs).getD i l0).ws)] := by
  refine List.ext_getElem? fun i => ?_
  by_cases h : i < (lnsT bs).length
  · unfold enumK
    rw [List.getElem?_zipWith, List.length_map, List.length_map, List.getElem?_range h, List.getElem?_map, List.getElem?_map, List.getElem?_map, List.getElem?_range h, List.getElem?_eq_getElem h]
    have e : (lnsT bs).getD i l0 = (lnsT bs)[i] := by rw [List.getD_eq_getElem?_getD, List.getElem?_eq_getElem h]; rfl
    show some (D.tup [D.int (((1 : Nat) : Int) + (i : Int)), .str (lnW ((lnsT bs)[i]).ws)]) = some (D.tup [D.int (((1 : Nat) : Int) + (i : Int)), .str (lnW ((lnsT bs).getD i l0).ws)])
    rw [e]
  · rw [List.getElem?_eq_none (by rw [enumK_len, List.length_map, List.length_map]; omega), List.getElem?_eq_none (by rw [List.length_map, List.length_range]; omega)]
theorem ln_words (l : Ln) : D.lst (l.ws.map .str) = D.lst (.str l.hd :: l.ws.tail.map .str) := by
  obtain ⟨r, e⟩ := ln_hd l
  rw [e]; rfl
theorem WLn.rd {l : Ln} (h : WLn l) : ∀ i, Sum.inr i ∈ l.wd → RdI i := fun i hi => by
  cases l with
  | b b => simp [Ln.wd] at hi
  | d v =>
    have : i = v.w ∨ i = v.l := by simpa [Ln.wd] using hi
    rcases this with rfl | rfl
    · exact h.2.1
    · exact h.2.2
  | u u => simp [Ln.wd] at hi
theorem atB_get {bs : List Blk} {k : Nat} {b : Blk} (ok : SchOk bs) (h : bs[k]? = some b) : (atB (libB bs) b.n).b = b := by
  have hg := libB_get h
  have nd : (nmsB (libB bs)).Nodup := by rw [libB_nms]; exact schOk_nodup ok
  have hm : b.n ∈ nmsB (libB bs) := List.mem_map.mpr ⟨_, List.mem_of_getElem? hg, rfl⟩
  obtain ⟨y, hy, e, hf⟩ := findB_mem hm
  obtain ⟨j, hj⟩ := List.getElem?_of_mem hy
  have h1 : (nmsB (libB bs))[k]? = some b.n := by unfold nmsB; rw [List.getElem?_map, hg]; rfl
  have h2 : (nmsB (libB bs))[j]? = some b.n := by unfold nmsB; rw [List.getElem?_map, hj, ← e]; rfl
  have : k = j := (List.getElem?_inj (List.getElem?_eq_some_iff.mp h1).1 nd).mp (h1.trans h2.symm)
  subst this
  rw [hg] at hj; cases hj
  unfold atB; rw [hf]; rfl
theorem lnsT_snoc' {bs : List Blk} {i : Nat} {b : Blk} (h : bs[i]? = some b) : lnsT (bs.take (i + 1)) = lnsT (bs.take i) ++ lnsB b := by
  rw [List.take_add_one, h]; exact lnsT_snoc _ _
theorem lnsT_take {bs : List Blk} (t : TxS bs) (i : Nat) : (lnsT (bs.take i)).length ≤ 1260 := lnsT_len (t.take i)
theorem qBs_small (ns : List Int) (f : Int) : ∀ k, ∀ b ∈ qBs ns f k, ∀ v ∈ b.V, v.w ≤ 3 ∧ v.l ≤ 2
  | 0, b, h => by simp [qBs] at h
  | k + 1, b, h => by
    rw [qBs, List.mem_append] at h
    rcases h with h | h
    · exact qBs_small ns f k b h
    · rw [List.mem_singleton] at h
      subst h
      intro v hv
      obtain ⟨j, _, rfl⟩ := List.mem_map.mp hv
      refine ⟨?_, ?_⟩
      · show 1 + _ % 3 ≤ 3; omega
      · show 1 + _ / 3 % 2 ≤ 2; omega
def mN (i : Int) : Str := ("m" : Str) ++ stI i
theorem mN_all : ∀ a b : Fin 60, mN (a.val : Int) = mN (b.val : Int) → a = b := by decide +kernel
theorem mN_ok : ∀ a : Fin 60, nameB (mN (a.val : Int)) = true := by decide +kernel
def b60 (k : Nat) : Blk := ⟨mN (k : Int), [], [], []⟩
def bs60 (n : Nat) : List Blk := (List.range n).map b60
theorem bs60_succ (n : Nat) : bs60 (n + 1) = bs60 n ++ [b60 n] := by unfold bs60; rw [List.range_succ, List.map_append]; rfl
theorem b60_ok {k : Nat} (h : k < 60) : BkOk (b60 k) := ⟨mN_ok ⟨k, h⟩, fun x h => by simp [b60] at h, by simp [b60], fun v h => by simp [b60] at h, fun u h => by simp [b60] at h, ⟨by simp [b60], by simp [b60], by simp [b60]⟩, fun u h => by simp [b60] at h⟩
theorem bs60_ok : ∀ n, n ≤ 60 → SchOk (bs60 n)
  | 0, _ => schOk_nil
  | n + 1, h => by
    rw [bs60_succ]
    refine schOk_snoc (bs60_ok n (by omega)) ⟨fun m => ?_, fun u h => by simp [b60] at h, fun u h => by simp [b60] at h⟩ (b60_ok (by omega))
    rw [libB_nms] at m
    obtain ⟨b, hb, e⟩ := List.mem_map.mp m
    obtain ⟨k, hk, rfl⟩ := List.mem_map.mp hb
    have hk := List.mem_range.mp hk
    have := congrArg Fin.val (mN_all ⟨k, by omega⟩ ⟨n, by omega⟩ e)
    simp at this; omega
theorem bs60_tx : TxS (bs60 60) := ⟨bs60_ok 60 (by omega), fun b hb => by
  obtain ⟨k, hk, rfl⟩ := List.mem_map.mp hb
  exact b60_ok (List.mem_range.mp hk), fun b hb v hv => by
  obtain ⟨k, hk, rfl⟩ := List.mem_map.mp hb
  simp [b60] at hv, by simp [bs60]⟩
theorem e_blockm : ("block m" : Str) = ("block" : Str) ++ ((" " : Str) ++ ("m" : Str)) := by decide +kernel
theorem ln_60 (k : Nat) : ("block m" : Str) ++ stI (k : Int) = lnW (Ln.b (b60 k)).ws := by
  rw [e_blockm]
  show _ = ("block" : Str) ++ (" " : Str) ++ mN (k : Int)
  unfold mN
  simp only [app_assoc]
theorem lines_60 : ∀ n, (lnsT (bs60 n)).map (fun l => lnW l.ws) = (List.range n).map fun (k : Nat) => ("block m" : Str) ++ stI (k : Int)
  | 0 => rfl
  | n + 1 => by rw [bs60_succ, lnsT_snoc, List.map_append, lines_60 n, List.range_succ, List.map_append, List.map_singleton, ln_60]; rfl
/-- the lines of a block, in part -/
def prB (b : Blk) (i j : Nat) : List Ln := .b b :: ((b.V.take i).map .d ++ (b.U.take j).map .u)
theorem prB_dev {b : Blk} {i : Nat} {v : BDev} (h : b.V[i]? = some v) : prB b (i + 1) 0 = prB b i 0 ++ [.d v] := by
  unfold prB; rw [List.take_add_one, h]; simp
theorem prB_use {b : Blk} {j : Nat} {u : BUse} (h : b.U[j]? = some u) : prB b b.V.length (j + 1) = prB b b.V.length j ++ [.u u] := by
  unfold prB; rw [List.take_add_one (l := b.U), h]; simp
theorem prB_end (b : Blk) : prB b b.V.length b.U.length = lnsB b := by unfold prB lnsB; rw [List.take_length, List.take_length]
def lnT (ls : List Ln) : List D := (ls.map fun l => lnW l.ws).map .str
theorem lnT_app (a b : List Ln) : lnT (a ++ b) = lnT a ++ lnT b := by unfold lnT; rw [List.map_append, List.map_append]
theorem prB_len {b : Blk} (ok : BkOk b) (i j : Nat) : (prB b i j).length ≤ 21 := by
  have := ok.few
  simp only [prB, List.length_cons, List.length_append, List.length_map, List.length_take]; omega
end DL
namespace DL
open PySem PySem.Spec PyProof.Rows L2
structure Rz (i : Int) : Prop where
  b : i.natAbs < 10 ^ 30
/-- the digits of a number -/
def dgI (i : Int) : Str := stI (i.natAbs : Int)
theorem Rz.rd {i : Int} (h : Rz i) : RdI (i.natAbs : Int) := ⟨by have := h.b; omega⟩
theorem Rz.sm {i : Int} (h : Rz i) : Sm i := ⟨by have := h.b; omega⟩
theorem stI_pos {i : Int} (h : 0 ≤ i) : stI i = dgI i := by unfold dgI; rw [show ((i.natAbs : Nat) : Int) = i by omega]
theorem stI_min {i : Int} (h : i < 0) : stI i = ("-" : Str) ++ dgI i := by
  have e : i = -((i.natAbs : Nat) : Int) := by omega
  unfold dgI
  conv => lhs; rw [e]
  exact stI_neg (by omega)
theorem minus_tl : ("-" : Str).cps.toList = [45] ∧ ("-" : Str).length = 1 := by decide +kernel
theorem stI_tl {i : Int} (h : i < 0) : (stI i).cps.toList = 45 :: (dgI i).cps.toList := by rw [stI_min h, cps_app, minus_tl.1]; rfl
theorem starts_yes (w : Str) : Txt.startswith (("-" : Str) ++ w) "-" = true := by
  unfold Txt.startswith
  rw [Bool.and_eq_true]
  refine ⟨decide_eq_true (by rw [app_len, minus_tl.2]; omega), ?_⟩
  change ((("-" : Str) ++ w).cps.extract 0 (0 + ("-" : Str).length) == ("-" : Str).cps) = true
  rw [beq_iff_eq, minus_tl.2]
  refine Array.ext' ?_
  rw [Array.toList_extract, cps_app, minus_tl.1]
  simp [List.extract_eq_drop_take]
theorem Rz.starts {i : Int} (h : Rz i) : Txt.startswith (stI i) "-" = decide (i < 0) := by
  rcases Int.lt_or_le i 0 with hi | hi
  · rw [stI_min hi, starts_yes, decide_eq_true hi]
  · rw [stI_pos hi, decide_eq_false (by omega)]; exact h.rd.starts
theorem Rz.int {i : Int} (h : Rz i) : PySem.intText? (stI i) = some i := by
  rcases Int.lt_or_le i 0 with hi | hi
  · have hl : (stI i).length ≤ 31 := by rw [stI_min hi, app_len, minus_tl.2]; have := h.rd.len; unfold dgI; omega
    have e := PySem.intText_neg (stI_tl hi) (by have := h.rd.tl; unfold dgI; rw [this]; exact TL.numL_digits _) (by unfold dgI; exact h.rd.ne) (by omega)
    rw [e]
    have h2 := h.rd.tl
    unfold dgI
    rw [h2, TL.numL_val]
    congr 1; omega
  · rw [stI_pos hi]
    have := h.rd.int
    unfold dgI
    rw [this]; congr 1; omega
theorem Rz.len {i : Int} (h : Rz i) : (stI i).length ≤ 31 := by
  rcases Int.lt_or_le i 0 with hi | hi
  · rw [stI_min hi, app_len, minus_tl.2]; have := h.rd.len; unfold dgI; omega
  · rw [stI_pos hi]; have := h.rd.len; unfold dgI; omega
theorem Rz.w {i : Int} (h : Rz i) : WOk (stI i) := by
  rcases Int.lt_or_le i 0 with hi | hi
  · have hw := h.rd.w
    have e := stI_tl hi
    refine ⟨fun m => ?_, fun m => ?_, by have := h.len; omega⟩
    · have m' : 32 ∈ (stI i).cps.toList := m
      rw [e] at m'
      rcases List.mem_cons.mp m' with z | z
      · cases z
      · exact hw.s z
    · have m' : 10 ∈ (stI i).cps.toList := m
      rw [e] at m'
      rcases List.mem_cons.mp m' with z | z
      · cases z
      · exact hw.l z
  · rw [stI_pos hi]; exact h.rd.w
/-- the word without its sign -/
theorem cut_min {i : Int} (h : i < 0) : cutS (stI i) (some 1) none = dgI i := by
  have e := stI_tl h
  have hl : (stI i).length = (dgI i).cps.toList.length + 1 := by
    have : (stI i).cps.toList.length = (dgI i).cps.toList.length + 1 := by rw [e]; rfl
    rwa [Array.length_toList] at this
  have e1 : HT.sIx (stI i).length 0 (some 1) = 1 := by
    unfold HT.sIx; simp only; rw [hl]; split <;> omega
  refine str_ext ?_
  unfold cutS
  rw [e1]
  show ((stI i).cps.toList.drop 1).take ((stI i).length - 1) = _
  rw [e]
  refine List.take_of_length_le ?_
  show (dgI i).cps.toList.length ≤ _
  omega
/-- a word that may be read -/
theorem Rz.head {i : Int} (h : Rz i) : (decide (stI i = ("0" : Str)) || !decide (sgn ((dgI i).cps.toList.getD 0 0) = ("0" : Str))) = true := by
  have hh := h.rd.head
  rcases Int.lt_or_le i 0 with hi | hi
  · have n0 : (dgI i) ≠ ("0" : Str) := fun e => by
      have e2 := congrArg (fun z : Str => z.cps.toList) e
      have e0 : ("0" : Str).cps.toList = [48] := by decide +kernel
      simp only [e0] at e2
      unfold dgI at e2
      rw [h.rd.tl] at e2
      have := num_first i.natAbs (by omega)
      rw [show ((i.natAbs : Int)).toNat = i.natAbs by omega] at e2
      rw [e2] at this
      exact this rfl
    have hh' : (decide (dgI i = ("0" : Str)) || !decide (sgn ((dgI i).cps.toList.getD 0 0) = ("0" : Str))) = true := hh
    rw [decide_eq_false n0, Bool.false_or] at hh'
    rw [hh', Bool.or_true]
  · rw [stI_pos hi]; exact hh
theorem Rz.dlen {i : Int} (h : Rz i) : (dgI i).length ≤ 30 := h.rd.len
end DL
namespace DL
open PySem PySem.Spec PyProof.Rows L2
/-- alike but for a dict at a, that is locked in one -/
structure FzK (a : Addr) (t : List (Key × V)) (H H' : Hp) : Prop where
  at1 : Rd H a (.dK t)
  at2 : Rd H' a (.dK t)
  ne : ∀ b, b ≠ a → H' b = H b
theorem FzK.rd {a : Addr} {t : List (Key × V)} {H H' : Hp} (f : FzK a t H H') {b : Addr} {u : HO} (hu : ∀ o x, u ≠ .frz o x) (h : Rd H b u) : Rd H' b u := by
  by_cases e : b = a
  · subst e
    rw [Rd.uniq h f.at1 hu (fun _ _ z => by cases z)]
    exact f.at2
  · rcases h with h | ⟨o, h⟩
    · exact .inl (by rw [f.ne b e]; exact h)
    · exact .inr ⟨o, by rw [f.ne b e]; exact h⟩
end DL
namespace DL
open PySem PySem.Spec PyProof.Rows L2
def PrD (K : PySem.W.Frag) (H : Hp) : List (Key × D) → List (V × V) → Prop
  | [], ps => ps = []
  | (k, d) :: r, ps => ∃ v t, ps = (kV k, v) :: t ∧ DR K H d v ∧ PrD K H r t
theorem PrD.mono {K : PySem.W.Frag} {H H' : Hp} (s : Same H H') : ∀ {kds : List (Key × D)} {ps : List (V × V)}, PrD K H kds ps → PrD K H' kds ps
  | [], ps, h => h
  | (k, d) :: r, ps, h => by
    obtain ⟨v, t, rfl, h1, h2⟩ := h
    exact ⟨v, t, rfl, DR.mono s _ _ h1, PrD.mono s h2⟩
end DL
namespace DL
open PySem PySem.Spec PyProof.Rows L2
local instance (priority := 2000) keyBEq25 : BEq Key := instBEqOfDecidableEq
section
variable {X : Cx} {ρ : En} {pos : Pos}
/-- a dict of the module, its keys texts: what stands at one of them -/
structure KdL (K : PySem.W.Frag) (w : World) (mg : Str → Option Value) (x z : Str) (d : D) : Prop where
  ex : ∃ p v, mg x = some (.ref p) ∧ KDct K w p z v ∧ ∀ H, DR K H d v
end
end DL
namespace DL
open PySem PySem.Spec PyProof.Rows L2
/-- a def at an address -/
structure FnA (P : Program) (w : World) (K : PySem.W.Frag) (mg : Str → Option Value) (base : Heap) (f : Addr) (k : Nat) (R : List D → D → Prop) : Prop where
  ex : ∃ fd ps, FnOk P w K mg base CX0 k f fd ps (spR K R) ∧ PySem.W.keepIn K (.ref f) = true ∧ Binds K fd ps []
/-- the dict x of the module has the key z -/
structure KdI (K : PySem.W.Frag) (w : World) (mg : Str → Option Value) (x z : Str) : Prop where
  ex : ∃ p es n u, mg x = some (.ref p) ∧ KDict K w p es n ∧ PySem.W.nsIn K p z = some (some u)
end DL
namespace DL
open PySem PySem.Spec PyProof.Rows L2
/-- the dict x of the module gives for the text z the def g of the module -/
structure KdR (K : PySem.W.Frag) (w : World) (mg : Str → Option Value) (x z g : Str) : Prop where
  ex : ∃ f, mg g = some (.ref f) ∧ KdL K w mg x z (.ad f)
  has : KdI K w mg x z
theorem KdR.fn {P : Program} {w : World} {K : PySem.W.Frag} {mg : Str → Option Value} {base : Heap} {x z g : Str} {k : Nat} {R : List D → D → Prop} (h : KdR K w mg x z g) (G : Fn P w K mg base g k R) : ∃ f, KdL K w mg x z (.ad f) ∧ FnA P w K mg base f k R := by
  obtain ⟨f, h1, h2⟩ := h.ex
  obtain ⟨f', fd, ps, F, hm, hk, hb⟩ := G.ex
  have e := h1.symm.trans hm
  cases e
  exact ⟨f, h2, fd, ps, F, hk, hb⟩
end DL
namespace DL
open PySem PySem.Spec PyProof.Rows L2
/-- ValueError.__init__ bound to e, called -/
theorem mw_call {prog : Program} {w : World} {A : Around} {E : Value → Shared → Prop} {h : Heap} {g : Array GenState} {d : Drawn} {t : Nat} {os : OsState} {nm q : Str} {C N u e t0 : Addr} {bs bm : List Value} {sn : List Str} {sub : List Value} {ab : Bool} {col : Option Bool} {dd : Option Addr} {k0 k1 k2 k3 k5 : Option Value} {rest : List Value} {Q : Value → Shared → Prop}
    (hC : h.get? C = some (excClassObj nm q C N bs bm true sn sub ab col dd k0 k1 k2 k3 k5 "ValueError.__new__")) (he : h.get? e = some (HandSPX.excO C t0)) (hu : h.get? u = some (PySem.W.kxs_mw "ValueError.__init__" e)) (hr : rest.length ≤ sizeLine)
    (hq : ∀ h' t1, (∀ b o, b ≠ e → h.get? b = some o → h'.get? b = some o) → h'.get? e = some (HandSPX.excO C t1) → Q .none ⟨h', g, d, t, os⟩) : wpAny (model prog w) A (call (.ref u) rest) Q E ⟨h, g, d, t, os⟩ := by
  have FB := F.excBase_ValueError
  refine wpAny_call (codeAny_of_tree (show wpAny (model prog w) A.in1 (callAny (.ref u) ⟨rest, []⟩) _ _ _ from ?_))
  unfold callAny
  refine wpAny_bind (wpAny_load hu ?_)
  have e1 : (Value.type "method-wrapper" == Value.type "method" || Value.type "method-wrapper" == Value.type "builtin_function_or_method" || Value.type "method-wrapper" == Value.type "method-wrapper") = true := by decide
  simp only [PySem.W.kxs_mw, e1, if_true]
  refine PySem.W.KFB.if_so (by decide) (wpAny_bind (PySem.W.check_bound_init FB.toExcCallFacts hC he rfl (wpAny_bind (wpAny_pure (wpAny_pure ⟨plainId_quiet FB.init.plain _, codeAny_builtin FB.initEntry ?_⟩)))))
  refine PySem.W.exc_init_tree (cls := .ref C) (t0 := t0) (dv := none) (c2 := .none) (c3 := .none) (b4 := .bool false) he hr fun h' k1 k2 _ => ?_
  exact hq h' _ k1 k2
end DL
namespace DL
open PySem PySem.Spec PyProof.Rows L2 NdefX
/-- what the written part says of an __init__ that says super() -/
structure SupK (P : Program) (K : PySem.W.Frag) (mg : Str → Option Value) (C fI cc c : Addr) (F : NF) : Prop where
  fc : F.cl = [(("__class__" : Str), cc)] ∧ F.c = c
  fn : ∃ oc od osl dV kV doc pm an ct, K.lookup fI = some ⟨oc, od, .func (PySem.W.fnX F.name F.qual F.params F.body F.scope F.cl dV kV doc pm an (.ref F.c) ct), osl⟩
  cd : PySem.W.codeIn K (.ref F.c) F.qual = true
  cell : ∃ cl cld csl, K.lookup cc = some ⟨cl, cld, .cell (some (.ref C)), csl⟩
  file : ∃ ccl cdd ccs vs fl tf, K.lookup F.c = some ⟨ccl, cdd, .fields vs, ccs⟩ ∧ vs[2]? = some (.str fl tf) ∧ ((P.main.file : Str) == fl) = true
  top : (P.main.scope.names.lookup ("super" : Str)).isSome = false
  arg : ∃ ar : Arg, (F.params.posonlyargs ++ F.params.args).head? = some ar ∧ ar.arg = ("self" : Str)
  sup : mg "super" = none
  mro : PySem.W.mroIn K C (.ref C) = some true
  opq : PySem.W.nsIn K cStatics "thirdparty.any" = some none
  ini : PySem.W.ks_superIn K C C "__init__" = some (some (.builtin "ValueError.__init__"))
  ve : PySem.W.subIn K (.ref C) (.type "ValueError") = some true
section
variable {CX : CXT} {P : Program} {w : World} {K : PySem.W.Frag} {mg : Str → Option Value} {base : Heap} {N : List Str} {F : NF} {fI C cc c a : Addr} {A : Around} {outer : List Env} {s : Shared} {H0 : Hp} {E : XK} {pins : List (Addr × Obj)} {σ : L2.St} {H : Hp} {t : TA} {R : Hp → Prop}
theorem sup_stmt {s0 : Shared} {body : List Stmt} {e : Expr} {p0 p1 ap pos pos2 : Pos} {pl : Sem Bool} (S : SupK P K mg C fI cc c F) (T : OexC K C) (I : Inv (ncx CX P w K mg base N F fI A outer s H0 E) pins σ H s0) (h0 : σ[0]? = some (some (.ref a))) (hN : N[0]? = some ("self" : Str))
    (ea : H a = some (exo a C none)) (ha : PA (ncx CX P w K mg base N F fI A outer s H0 E) [e] t) (hq : t σ H fun vs H1 => vs.length ≤ 1000 ∧ H1 a = some (exo a C none) ∧ R H1)
    (hks : F.scope.names.lookup ("super" : Str) = some .globalImplicit) (hkc : F.scope.names.lookup ("__class__" : Str) = some .free) (hka : F.scope.names.lookup ("self" : Str) = some .local) (hk : F.scope.kind = .function)
    (hi : interactive (envF F fI s.heap.objs.size) = false) (hs : swapsWith (.Call (.Attribute (.Call (.Name "super" p0) [] [] p1) "__init__" ap) [e] [] pos) none pos2.line (envF F fI s.heap.objs.size) = pure false)
    (he : eval (.Call (.Attribute (.Call (.Name "super" p0) [] [] p1) "__init__" ap) [e] [] pos) (envF F fI s.heap.objs.size) = (do
      let ov ← attributeBase (.Call (.Name "super" p0) [] [] p1) "__init__" (envF F fI s.heap.objs.size) (eval (.Call (.Name "super" p0) [] [] p1) (envF F fI s.heap.objs.size))
      standAt ap.atName
      let (f, first) ← holding [ov] (getMethod ov "__init__" pl)
      callWith pos f first (backTo pos (starEach [e] (envF F fI s.heap.objs.size))) []))
    (hst : starEach [e] (envF F fI s.heap.objs.size) = (false, eval e (envF F fI s.heap.objs.size)) :: starEach [] (envF F fI s.heap.objs.size)) :
    _root_.PySem.wpAt (model P w) (A.deeper (envF F fI s.heap.objs.size)) (.func body (envF F fI s.heap.objs.size)) (exec (.Expr (.Call (.Attribute (.Call (.Name "super" p0) [] [] p1) "__init__" ap) [e] [] pos) pos2) (envF F fI s.heap.objs.size))
      (fun fl s' => fl = .next ∧ ∃ H', Inv (ncx CX P w K mg base N F fI A outer s H0 E) pins σ H' s' ∧ R H') (ncx CX P w K mg base N F fI A outer s H0 E).xe s0 := by
  obtain ⟨oc, od, osl, dV, kV, doc, pm, an, ct, hfn⟩ := S.fn
  obtain ⟨cl, cld, csl, hcell⟩ := S.cell
  obtain ⟨ccl, cdd, ccs, vs0, fl0, tf, hcode, hvs, hfile⟩ := S.file
  obtain ⟨ar, har, har2⟩ := S.arg
  have KX : K.In s0.heap := I.kIn
  obtain ⟨nm, q, Nn, bs, bm, sn, sub, ab, col, dd, k0, k1, k2, k3, k5, hC, hbm⟩ := T.cls
  obtain ⟨mb, hmb1, hmb2⟩ := I.mod.blt
  obtain ⟨m, hns, hl⟩ := I.loc
  obtain ⟨u, ru, lu⟩ := hl 0 "self" (.ref a) hN h0 (.inl hka)
  cases (show u = Value.ref a from ru)
  have hm : m "self" = some (.ref a) := by
    rcases lu with ⟨_, lu⟩ | ⟨hz, _⟩
    · exact lu
    · have hz : F.scope.names.lookup ("self" : Str) = some .cell ∨ F.scope.names.lookup ("self" : Str) = some .free := hz
      rw [hka] at hz
      rcases hz with hz | hz <;> cases hz
  obtain ⟨t1, hx⟩ := exo_at I.hok ea
  refine ks_wpAt_Expr_any ?_ hi hs
  refine ks_wpAt_MethodCall (pl := pl) ?_ he
  refine ks_wpAt_super_base (env := envF F fI s.heap.objs.size) hks hkc (by decide +kernel) rfl (KX _ _ hfn) rfl har rfl (KX _ _ hcode) rfl hvs hfile S.top ?_
  refine PySem.W.ks_loadName_global hk hks (Calls.loadGlobal_builtin (env := envF F fI s.heap.objs.size) (mg := mg) (mb := mb) (by rw [show (envF F fI s.heap.objs.size).globals = mainGlobals from rfl]; exact I.mod.glob.keeps I.bk) S.sup (hmb1.keeps I.bk) ((hmb2 "super" (by decide)).trans (by decide +kernel)) ⟨rfl, ?_⟩)
  refine wpAny_loadName_free hk hkc (c := cc) (v := .ref C) (by rw [show (envF F fI s.heap.objs.size).cells = F.cl from rfl, S.fc.1]; rfl) ⟨_, KX _ _ hcell, rfl⟩ ?_
  rw [har2]
  refine wpAny_loadName_local hk hka hns hm ?_
  obtain ⟨hh, g, d, tk, os⟩ := s0
  have hD1 : hh.get? C = some _ := KX _ _ hC
  refine ks_wpAny_isType_cls hD1 rfl ⟨rfl, ?_⟩
  refine ks_wpAny_call_super hD1 rfl hx rfl (fun _ z => nomatch z) (PySem.W.looks_mroIn KX S.mro) fun h1 e1 kp1 => ?_
  have I1 := I.kept (t' := tk) kp1
  have KX1 : K.In h1 := KX.keeps kp1
  have hx1 := kp1 _ _ hx
  have hcl : PySem.W.clsIn K C = some { name := nm, bases := bs, mro := .ref C :: bm, ns := Nn, qualname := q, hasDict := true, slotNames := sn, subclasses := sub, abstract := ab, collection := col, hasDel := false } := by
    unfold PySem.W.clsIn; rw [hC] <;> rfl
  have ia : PySem.W.InstAt h1 a (HandSPX.excO C t1) C none := ⟨hx1, rfl, rfl, trivial⟩
  have hin := S.ini
  unfold PySem.W.ks_superIn at hin
  rw [hcl] at hin
  refine PySem.W.kxs_getMethod PySem.W.kxs_ValueError e1 (PySem.W.looks_opaque KX1 S.opq) (l₀ := .ref C :: bm) ?_ rfl KX1 hin (ia.type.andThen (PySem.W.looks_subIn KX1 S.ve)) (PySem.W.ks_ne KX1 ia hcl) (by decide +kernel) ?_
  · exact fun A2 Q2 E2 s2 k2 q2 => wpAny_bind ((PySem.W.looks_clsIn KX1 hcl) A2 _ E2 s2 k2 (wpAny_pure q2))
  have I2 : Inv (ncx CX P w K mg base N F fI A outer s H0 E) ((h1.objs.size, PySem.W.kxs_mw "ValueError.__init__" a) :: pins) σ H ⟨h1.push (PySem.W.kxs_mw "ValueError.__init__" a), g, d, tk + 1, os⟩ :=
    ClX.pin_new (t' := tk + 1) I1 (fun b o z => Heap.get?_push_of_some _ z) (Nat.le_refl _) (Heap.get?_push_at rfl rfl) (fun _ z => nomatch z)
  have hrun := ha.run pos _ _ σ H _ I2 hq
  change wpAny (model P w) (A.deeper (envF F fI s.heap.objs.size)) (spliced (backTo pos (starEach [e] (envF F fI s.heap.objs.size)))) _ _ _ at hrun
  rw [hst] at hrun ⊢
  refine PySem.W.kxs_callWith (i := "ValueError.__init__") (x := a) rfl (Calls.evalArgs_plain (wpAny_mono hrun (fun us s3 hz => ?_) fun _ _ z => z))
  obtain ⟨vs, H1, I3, rv, hlen, ea1, q3⟩ := hz
  refine ⟨ClX.pin_at I3, ?_⟩
  obtain ⟨t2, hx3⟩ := exo_at I3.hok ea1
  have hu3 := ClX.pin_at I3
  have I4 := ClX.unpin I3
  obtain ⟨h3, g3, d3, tk3, os3⟩ := s3
  refine mw_call (I4.kIn _ _ hC) hx3 hu3 (by show us.length ≤ sizeLine; rw [← rv.length, sizeLine_eq]; omega) fun h4 t4 kp4 hx4 => ⟨rfl, H1, ?_, q3⟩
  have J := I4.write (t' := tk3) (x := a) (e := a) (o := exo a C none) (by rw [ea1]; exact True.intro) (.inl rfl) kp4 ⟨_, hx4⟩ (exo_ok hx4)
  have eu : upd H1 a (exo a C none) = H1 := by
    funext b
    by_cases hb : b = a
    · rw [hb, upd_same, ea1]
    · rw [upd_ne hb]
  rw [eu] at J
  exact J
end
end DL
namespace DL
open PySem PySem.Spec PyProof.Rows L2 NdefX
/-- what an __init__ of errors is told: the object at a, its arguments; what its fields hold (the last one first) -/
def spE (K : PySem.W.Frag) (C : Addr) (ns : List Str) (R : List D → List D → Prop) : Sp := fun vs H Q _ => ∃ H0 a ds es ws, vs = .ref a :: ws ∧ Same H0 H ∧ H a = some (exo a C none) ∧ H0 a = none ∧ DRs K H0 ds ws ∧ R ds es ∧
  ∀ dx us H0' H', JH H0 (er H a) H0' H' → H0' a = none → H' a = some (exo a C (some dx)) → H' dx = some (exd dx (ns.zip us)) → H dx = none → H0' dx = none → ns.length = us.length → DRs K H0' es us → Q .non H'
section
variable {P : Program} {w : World} {K : PySem.W.Frag} {mg : Str → Option Value} {base : Heap} {N ps : List Str} {F : NF} {fI C cc c : Addr} {k : Nat} {R : List D → List D → Prop} {f1 : Str}
theorem startF_start {N : List Str} {vs : List V} (h : vs.length + 1 ≤ N.length) : startF N vs [none] = L2.start N vs := by
  unfold startF L2.start
  have e : N.length - vs.length = (N.length - vs.length - 1) + 1 := by omega
  rw [e, List.replicate_succ]
  simp
/-- def __init__(self, ..): super().__init__(e); self.f1 = e1 -/
theorem fn_okE1 {e e1 : Expr} {p0 p1 ap pos pos2 p3 p4 p5 : Pos} {pl : Sem Bool} (S : SupK P K mg C fI cc c F) (T : OexC K C) (NS : NScope N ps ["__class__"] F.scope) (hN : N[0]? = some ("self" : Str)) (hNc : N[0]? ≠ none)
    (hR : ∀ ds es, R ds es → ds.length + 1 = ps.length) (hb : F.body = [.Expr (.Call (.Attribute (.Call (.Name "super" p0) [] [] p1) "__init__" ap) [e] [] pos) pos2, .Assign [.Attribute (.Name "self" p3) f1 p4] e1 p5])
    (hf1 : PySem.W.findIn K (.ref C) f1 = some none)
    (hks : F.scope.names.lookup ("super" : Str) = some .globalImplicit) (hkc : F.scope.names.lookup ("__class__" : Str) = some .free) (hka : F.scope.names.lookup ("self" : Str) = some .local)
    (hi : ∀ L, interactive (envF F fI L) = false) (hs : ∀ L, swapsWith (.Call (.Attribute (.Call (.Name "super" p0) [] [] p1) "__init__" ap) [e] [] pos) none pos2.line (envF F fI L) = pure false)
    (he : ∀ L, eval (.Call (.Attribute (.Call (.Name "super" p0) [] [] p1) "__init__" ap) [e] [] pos) (envF F fI L) = (do
      let ov ← attributeBase (.Call (.Name "super" p0) [] [] p1) "__init__" (envF F fI L) (eval (.Call (.Name "super" p0) [] [] p1) (envF F fI L))
      standAt ap.atName
      let (f, first) ← holding [ov] (getMethod ov "__init__" pl)
      callWith pos f first (backTo pos (starEach [e] (envF F fI L))) []))
    (hst : ∀ L, starEach [e] (envF F fI L) = (false, eval e (envF F fI L)) :: starEach [] (envF F fI L)) (hs2 : ∀ L, swapsWith e1 (some (.Attribute (.Name "self" p3) f1 p4)) p5.line (envF F fI L) = pure false)
    (body : ∀ (a : Addr) ds es, R ds es → ∀ (A : Around) (outer : List Env) (s : Shared) (H : Hp) (E : XK), Room k (A.deeper (envF F fI s.heap.objs.size)) →
      ∃ z d1, ED (ncx CX0 P w K mg base N F fI A outer s H E) (en N (.ad a :: ds)) e (.str z) ∧ ED (ncx CX0 P w K mg base N F fI A outer s H E) (en N (.ad a :: ds)) e1 d1 ∧ ED (ncx CX0 P w K mg base N F fI A outer s H E) (en N (.ad a :: ds)) (.Name "self" p3) (.ad a) ∧ es = [d1]) {dV kV doc pm ct : Value} {ann : Option Addr} {oc : Value} {od : Option Addr} {osl : Array (Option Value)}
    (lk : K.lookup fI = some ⟨oc, od, .func (PySem.W.fnX F.name F.qual F.params F.body F.scope F.cl dV kV doc pm ann (.ref F.c) ct), osl⟩) :
    FnOk P w K mg base CX0 (k + 1) fI (PySem.W.fnX F.name F.qual F.params F.body F.scope F.cl dV kV doc pm ann (.ref F.c) ct) ps (spE K C [f1] R) := by
  refine ⟨fun vs H Q E hs => ?_, fun A outer s H args us vs Q E hr e0 hbd r hsp => ?_⟩
  · obtain ⟨H0, a, ds, es, ws, rfl, _, _, _, r, q, _⟩ := hs
    rw [List.length_cons, ← DRs.length r]; exact hR ds es q
  obtain ⟨H0, a, ds, es, ws, rfl, s0, ha, h0, r0, q, kk⟩ := hsp
  have hl : ds.length + 1 = ps.length := hR ds es q
  have hlw := DRs.length r0
  have KX : K.In s.heap := e0.mod.kin.keeps fun b o z => (e0.bs b o z).1
  have lim : s.heap.NoLimit := e0.mod.nolimit.keeps fun b o z => (e0.bs b o z).1
  have pre := congrArg List.length NS.pre
  rw [List.length_take, List.length_append] at pre
  simp only [List.length_cons, List.length_nil] at pre
  obtain ⟨cl, cld, csl, hcell⟩ := S.cell
  have cellH : s.heap.IsCell cc (some (.ref C)) := ⟨_, KX _ _ hcell, rfl⟩
  have ccN : H cc = none := by
    have := e0.mod.kin _ _ hcell
    exact (e0.bs _ _ this).2
  have CA : CellsAt F.cl ["__class__"] [none] s.heap H := by
    refine ⟨rfl, fun y c' hc' => ?_, fun x y c' h1 h2 => ?_, fun i y hy => ?_⟩
    · rw [S.fc.1] at hc'
      have : c' = cc := by
        simp only [List.lookup] at hc'
        split at hc'
        · exact (Option.some.inj hc').symm
        · cases hc'
      subst this
      exact ⟨ccN, _, cellH⟩
    · rw [S.fc.1] at h1 h2
      simp only [List.lookup] at h1 h2
      have ex : ∀ z : Str, (z == ("__class__" : Str)) = true → z = ("__class__" : Str) := fun z h => by simpa using h
      split at h1
      · rename_i g1
        split at h2
        · rename_i g2
          rw [ex _ g1, ex _ g2]
        · cases h2
      · cases h1
    · cases i with
      | zero =>
        have : y = ("__class__" : Str) := by simpa using hy.symm
        subst this
        exact ⟨cc, by rw [S.fc.1]; simp [List.lookup], fun v hv => by simp at hv⟩
      | succ i => simp at hy
  refine codeAny_call_function hr.depth (KX _ _ lk) rfl NS.co NS.gen rfl (PySem.W.codeRec_of KX S.cd) (hbd _ _ _ _ ?_)
  refine wpAny_newFunctionEnv NS.nocell (fun ⟨n, _⟩ hy => NS.par n (List.of_mem_zip hy).1) (fun h₁ hns hsb => ⟨lim.fresh _ hsb, ?_⟩) NS.kind
  show codeAny _ _ (.func F.body (envF F fI s.heap.objs.size)) _ _
  refine ks_codeAny_funcAt ?_
  have kp : ∀ b o, s.heap.get? b = some o → h₁.get? b = some o := fun b o z => hsb.extBut b o (Nat.ne_of_lt (Heap.lt_size z)) (Heap.get?_push_of_some _ z)
  have hN1 : (V.ref a :: ws).length + 1 ≤ N.length := by rw [List.length_cons]; omega
  have I : Inv (ncx CX0 P w K mg base N F fI A outer s H E) [] (startF N (.ref a :: ws) [none]) H { s with heap := h₁, toks := s.toks + (ps.zip us).length } := inv_startN NS hr.hd e0 (by rw [List.length_cons, ← hlw]; exact hl) r CA hns kp
  rw [startF_start hN1] at I
  have j0 : J K H0 H (L2.start N (.ref a :: ws)) H0 H (en N (.ad a :: ds)) := j_start s0 (ds := .ad a :: ds) ⟨.ref a, ws, rfl, rfl, r0⟩ (by rw [List.length_cons]; omega)
  obtain ⟨z, d1, b1, b2, b3, rfl⟩ := body a ds es q A outer s H E (hr.deeper _)
  have h00 : (L2.start N (.ref a :: ws))[0]? = some (some (V.ref a)) := by unfold L2.start; simp
  rw [hb]
  refine ks_wpAt_execs_cons (PySem.ks_wpAt_mono (sup_stmt (pl := pl) (R := fun H1 => ∃ G0, JH H0 H G0 H1) S T I h00 hN ha (pa_star (X := ncx CX0 P w K mg base N F fI A outer s H E) (es := [e])) ?_ hks hkc hka NS.kind (hi _) (hs _) (he _) (hst _)) (fun fl s' hz => ?_) fun _ _ z => z)
  · exact ad_cons (X := ncx CX0 P w K mg base N F fI A outer s H E) b1 ad_nil (hst _) H0 H _ H0 H _ j0 fun vs G0 G g rv => ⟨by have := DRs.length rv; simp only [List.length_cons, List.length_nil] at this; omega, g.sB _ _ ha, G0, g⟩
  obtain ⟨rfl, H1, I1, G0, g⟩ := hz
  refine _root_.PySem.wpAt_of_wpAny ?_
  have RP := (pss_cons (ps_ost (X := ncx CX0 P w K mg base N F fI A outer s H E) (f := f1) (p' := p4) (pos := p5) (pe_star (e := .Name "self" p3)) (pe_star (e := e1)) (hs2 _)) pss_nil).run [] s' (L2.start N (.ref a :: ws)) H1 { nx := fun _ H' => Q .non H', rt := Q } I1
    (b2 H0 H _ G0 H1 _ (j0.grow g) fun y L0 L g2 ry => b3 H0 H _ L0 L _ ((j0.grow g).grow g2) fun x M0 M g3 rx => ?_)
  · refine wpAny_mono RP (fun fl s2 hz => ?_) fun _ _ z => z
    have fin : ∀ {σ' : L2.St} {H' : Hp} {v : V} {u : Value}, Inv (ncx CX0 P w K mg base N F fI A outer s H E) [] σ' H' s2 → L2.RelV v u → Q v H' → CE outer P w H s Q u s2 :=
      fun {σ' H' v u} J rv q => ⟨v, H', J.os, J.bare, J.base, J.hok, rv, q⟩
    cases fl with
    | ret u => obtain ⟨v, σ', H', J, rv, q⟩ := hz; exact fin J rv q
    | next => obtain ⟨σ', H', J, q⟩ := hz; exact fin (v := V.non) (u := Value.none) J rfl q
    | brk => obtain ⟨_, _, _, q⟩ := hz; exact q.elim
    | cont => obtain ⟨_, _, _, q⟩ := hz; exact q.elim
  · cases (show x = .ref a from rx)
    have gM : JH H0 H M0 M := (g.trans g2).trans g3
    have M0a : M0 a = none := gM.fr _ _ ha trivial h0
    have Ma : M a = some (exo a C none) := gM.sB _ _ ha
    refine ⟨a, C, rfl, T, hf1, .inl ⟨Ma, fun dx n1 n2 => ?_⟩⟩
    have M0d : M0 dx = none := gM.sh.free n1
    refine kk dx [y] M0 _ ⟨gM.s0, fun b u z => ?_, fun b u z => ?_, fun b u z nt z' => ?_⟩ M0a upd_same (by rw [upd_ne n2]; exact upd_same) (gM.sB.free n1) M0d rfl ⟨y, [], rfl, DR.mono g3.s0 _ _ ry, rfl⟩
    · have hb1 : b ≠ a := fun e => by subst e; rw [M0a] at z; cases z
      have hb2 : b ≠ dx := fun e => by subst e; rw [M0d] at z; cases z
      rw [upd_ne hb1, upd_ne hb2]; exact gM.sh _ _ z
    · have hb1 : b ≠ a := fun e => by subst e; rw [er_same] at z; cases z
      rw [er_ne hb1] at z
      have zM := gM.sB _ _ z
      have hb2 : b ≠ dx := fun e => by subst e; rw [n1] at zM; cases zM
      rw [upd_ne hb1, upd_ne hb2]; exact zM
    · have hb1 : b ≠ a := fun e => by subst e; rw [er_same] at z; cases z
      rw [er_ne hb1] at z
      exact gM.fr _ _ z nt z'
end
end DL
namespace DL
open PySem PySem.Spec PyProof.Rows L2
section
variable {X : Cx} {C fI : Addr} {x : Str} {e : Expr} {es : List Expr} {t : TA} {p pos : Pos}
/-- an own class whose __init__ keeps fields, called: what is made has no context -/
theorem made_own {CX : CXT} {k : Nat} {fd : FuncData} {ps : List Str} {sp : Sp} {pins : List (Addr × Obj)} {σ : L2.St} {H : Hp} {s : Shared} {us : List Value} {vs : List V} {Q : XK} (T : OexC X.K C) (iC : PySem.W.findIn X.K (.ref C) "__init__" = some (some (.ref fI))) (tI : PySem.W.typeIn X.K (.ref fI) = some (.type "function"))
    (F : FnOk X.prog X.w X.K X.mg X.base CX k fI fd ps sp) (hr : Room (k + 1) X.A) (hb : Binds X.K fd ps []) (hx : Passes CX X (fun _ _ _ => False)) (I : Inv X pins σ H s) (rv : Vals vs us) (hz : vs.length ≤ 1000)
    (hq : ∀ a, H a = none → sp (.ref a :: vs) (upd H a (exo a C none)) (fun v H2 => v = .non ∧ ∃ d fs, H2 a = some (exo a C (some d)) ∧ H2 d = some (exd d fs) ∧ H d = none ∧ Q (.ref C) (some d) (upd (L2.del H2 a) d (.xd fs))) (fun _ _ _ => False)) :
    wpAny (model X.prog X.w) X.A (call (.ref C) us) (L2N.MkP X pins σ Q) X.xe s := by
  obtain ⟨hp, g, dr, tk, os⟩ := s
  obtain ⟨_, _, _, _, bm, _, _, _, _, _, _, _, _, _, _, hC, hbm⟩ := T.cls
  let G : Heap := (hp.push (PySem.W.kdv_tup us)).push (PySem.HandSPX.excO C hp.objs.size)
  have grow : ∀ b u, hp.get? b = some u → G.get? b = some u := fun b u z => Heap.get?_push_of_some _ (Heap.get?_push_of_some _ z)
  have ge : G.get? (hp.objs.size + 1) = some (PySem.HandSPX.excO C hp.objs.size) := by show Heap.get? ((hp.push _).push _) _ = _; heap_get
  have J : Inv X pins σ (upd H (hp.objs.size + 1) (exo (hp.objs.size + 1) C none)) ⟨G, g, dr, tk, os⟩ := I.laid (t' := tk) grow (Nat.le_succ _) (exo_ok ge)
  have h0 := hq (hp.objs.size + 1) (I.hok.fresh (Nat.le_succ _))
  have rs : Vals (V.ref (hp.objs.size + 1) :: vs) (Value.ref (hp.objs.size + 1) :: us) := .cons rfl rv
  have bs := hb ⟨G, g, dr, tk, os⟩ (Value.ref (hp.objs.size + 1) :: us) J.kIn (by rw [List.append_nil, ← rs.length]; exact F.len _ _ _ _ h0)
  rw [List.append_nil] at bs
  have small : us.length ≤ sizeLine := by rw [← rv.length, sizeLine_eq]; omega
  have run := F.run _ X.stack ⟨G, g, dr, tk, os⟩ _ ⟨Value.ref (hp.objs.size + 1) :: us, []⟩ _ _ _ _ (hr.make C us []) (J.env0.make C us []) bs rs h0
  refine wpAny_call (PySem.HandSPX.call_own PySem.F.excBase_ValueError (fun Y => PySem.HandSPX.refsVE_contains Y bm hbm) (I.kIn _ _ hC) (PySem.W.looks_findIn I.kIn iC) (fun self => PySem.W.bind_fn I.kIn self tI) small (codeAny_mono run fun r s2 back => ?_))
  match r, back with
  | .error _, back => exact hx pins σ _ _ _ s2 J back
  | .ok (.ret u), ⟨v, H2, os2, bare2, un2, hok2, ru, hv, d, fs, ea, ed, hd, q2⟩ =>
    cases hv
    obtain ⟨G2, g2, d2, t2, os'⟩ := s2
    obtain ⟨t0, G3, J3, k3, n3, e3, f3⟩ := mk_end0 (d2 := d2) (t2 := t2) I (Nat.le_succ _) grow un2 hok2 os2 bare2 ea ed hd
    have ctx : L2N.Zn (.ref C) (some d) ({ cls := .ref C, dict := some d, data := .fields #[.ref t0, .none, .none, .none, .bool false, .none] } : Obj) := ⟨rfl, rfl, fun _ z => by cases z; rfl⟩
    exact ⟨ru, hp.objs.size + 1, _, _, ⟨G3, g2, d2, t2, os'⟩, _, _, some d, rfl, J3, k3, n3, e3, ctx, rfl, rfl, f3, rfl, bare2, raises_own T.exC T.tyC, q2⟩
  | .ok .next, back => exact back.elim
  | .ok .brk, back => exact back.elim
  | .ok .cont, back => exact back.elim
theorem pmk_oexN {CX : CXT} {k : Nat} {fd : FuncData} {ps : List Str} {sp : Sp} (T : OexC X.K C) (iC : PySem.W.findIn X.K (.ref C) "__init__" = some (some (.ref fI))) (tI : PySem.W.typeIn X.K (.ref fI) = some (.type "function"))
    (F : FnOk X.prog X.w X.K X.mg X.base CX k fI fd ps sp) (hr : Room (k + 1) X.A) (hb : Binds X.K fd ps []) (hx : Passes CX X (fun _ _ _ => False)) (hg : Gl X x) (hm : X.mg x = some (.ref C)) (ha : PA X (e :: es) t) (hdb : (x == ("__debug__" : Str)) = false := by decide)
    (he : starEach (e :: es) X.env = (false, eval e X.env) :: starEach es X.env := by rfl) (hpl : (backTo pos (starEach es X.env)).any (·.1) = false := by rfl) : L2N.PMk X (.Call (.Name x p) (e :: es) [] pos) (tMkO C sp [] t) := fun pins s σ H Q I h =>
  wpAny_Call_Name_kw (ld_glob I hg hm (PySem.W.callWith_K (h₀ := X.base) I.ok.mod.kin T.kC (thn (ha.run pos pins s σ H _ I h) fun us s1 ⟨vs, H1, I1, rv, hz, q1⟩ => ⟨I1.kIn, made_own T iC tI F hr hb hx I1 rv hz (fun a na => by have z := q1 a na; rw [List.append_nil] at z; exact z)⟩) he hpl) hdb)
end
section
variable {P : Program} {w : World} {K : PySem.W.Frag} {mg : Str → Option Value} {base : Heap}
theorem _root_.L2.Fun.okXN {x qual : Str} {st : Stmt} {f : Addr} {fd : FuncData} {N ps : List Str} {k : Nat} {sp : Sp} (F : Fun K x qual st f fd) (S : FnScope N ps (defScope st)) (len : ∀ vs H Q E, sp vs H Q E → vs.length = ps.length)
    (hbody : ∀ (cdv : Value) (A : Around) (outer : List Env) (s : Shared) (H : Hp) (vs : List V) (Q : VK) (E : XK), Room k (A.deeper (envOfC qual (defScope st) s.heap.objs.size f cdv)) → sp vs H Q E →
      ∃ t, PSs (cxOf (L2N.CX P w) P w K mg base N qual (defScope st) f cdv A outer s H E) (defBody st) t ∧ t { nx := fun _ H' => Q .non H', rt := Q } (L2.start N vs) H) : FnOk P w K mg base (L2N.CX P w) (k + 1) f fd ps sp := by
  obtain ⟨_, _, _, _, _, _, _, _, _, rfl, lk, hcd⟩ := F.ex
  exact fn_of lk hcd S len fun A outer s H vs Q E hr hs => hbody _ A outer s H vs Q E hr hs
end
/-- the context of a def's body, an error of it told with its context -/
abbrev bxN (P : Program) (w : World) (K : PySem.W.Frag) (mg : Str → Option Value) (base : Heap) (N : List Str) (qual : Str) (st : Stmt) (f : Addr) (cdv : Value) (A : Around) (outer : List Env) (s : Shared) (H : Hp) (E : XK) : Cx :=
  cxOf (L2N.CX P w) P w K mg base N qual (defScope st) f cdv A outer s H E
abbrev Err := PySem.W.Frag → Value → Option Addr → Hp → Prop
/-- .. with fields (the last one first) -/
def errF (cn : Str) (ns : List Str) (ds : List D) : Err := fun K v d H0 => ∃ C x vs, PySem.W.nsIn K mainGlobals cn = some (some (.ref C)) ∧ v = .ref C ∧ d = some x ∧ H0 x = some (.xd (ns.zip vs)) ∧ ns.length = vs.length ∧ DRs K H0 ds vs
/-- e lets out such an error -/
def EG (X : Cx) (ρ : En) (e : Expr) (Θ : Err) : Prop := ∀ B0 B σ H0 H (Q : VK) (W : L2.WX), L2N.Takes X W → J X.K B0 B σ H0 H ρ → (∀ v d H0' H', Θ X.K v d H0' → JH H0 H H0' H' → W v d σ H') → RE X e σ H Q
def XG1 (X : Cx) (st : Stmt) (ρ : En) (Θ : Err) (ρx : En) : Prop := ∀ B0 B σ H0 H Dn (W : L2.WX), L2N.Takes X W → J X.K B0 B σ H0 H ρ → (∀ v d σ' H0' H', Θ X.K v d H0' → J X.K B0 B σ' H0' H' ρx → W v d σ' H') → RS X st Dn σ H
def XG (X : Cx) (sts : List Stmt) (ρ : En) (Θ : Err) (ρx : En) : Prop := ∀ B0 B σ H0 H Dn (W : L2.WX), L2N.Takes X W → J X.K B0 B σ H0 H ρ → (∀ v d σ' H0' H', Θ X.K v d H0' → J X.K B0 B σ' H0' H' ρx → W v d σ' H') → RSs X sts Dn σ H
def ThenG (X : Cx) (rest : List Stmt) (Θ : Err) (ρx : En) : Out → Prop
  | .nx ρ => XG X rest ρ Θ ρx
  | _ => False
/-- an own class of errors with an __init__ that keeps fields -/
structure FnEr (P : Program) (w : World) (K : PySem.W.Frag) (mg : Str → Option Value) (base : Heap) (cn : Str) (ns : List Str) (k : Nat) (R : List D → List D → Prop) : Prop where
  ex : ∃ C fI fd ps, PySem.W.nsIn K mainGlobals cn = some (some (.ref C)) ∧ mg cn = some (.ref C) ∧ OexC K C ∧ PySem.W.findIn K (.ref C) "__init__" = some (some (.ref fI)) ∧ PySem.W.typeIn K (.ref fI) = some (.type "function") ∧ FnOk P w K mg base CX0 k fI fd ps (spE K C ns R) ∧ Binds K fd ps []
section
variable {X : Cx} {ρ ρx : En} {Θ : Err} {e : Expr} {st : Stmt} {rest sa sb : List Stmt} {pos : Pos}
theorem xg_head (h : XG1 X st ρ Θ ρx) : XG X (st :: rest) ρ Θ ρx := fun B0 B σ H0 H Dn W tk j k => ⟨_, pss_cons ps_star pss_star, h B0 B σ H0 H _ W tk j k⟩
theorem xg_cons (h : WS X st ρ (ThenG X rest Θ ρx)) : XG X (st :: rest) ρ Θ ρx := fun B0 B σ H0 H Dn W tk j k => by
  refine ⟨_, pss_cons ps_star pss_star, h B0 B σ H0 H _ j fun o ho => ?_⟩
  cases o with
  | nx ρ' => exact fun σ' H0' H' j' => ho B0 B σ' H0' H' Dn W tk j' k
  | bk ρ' => exact ho.elim
  | ct ρ' => exact ho.elim
  | rt d => exact ho.elim
  | ro c => exact ho.elim
  | rc d cs => exact ho.elim
theorem xg_expr (h : EG X ρ e Θ) (hs : swapsWith e none pos.line X.env = pure false := by rfl) : XG1 X (.Expr e pos) ρ Θ ρ := fun B0 B σ H0 H Dn W tk j k =>
  ⟨_, ps_expr pe_star hs, h B0 B σ H0 H _ W tk j fun v d L0 L t g => k v d σ L0 L t (j.grow g)⟩
/-- raise cn(e, ..), a class whose __init__ keeps fields -/
theorem xg_raiseF {cn : Str} {ns : List Str} {k0 : Nat} {R : List D → List D → Prop} {es : List Expr} {ds fs : List D} {p pos' : Pos} (G : FnEr X.prog X.w X.K X.mg X.base cn ns k0 R) (hr : Room (k0 + 1) X.A) (hg : Gl X cn) (ha : AD X ρ (e :: es) ds) (hR : R ds fs) (hl : ds.length ≤ 1000 := by simp only [List.length_cons, List.length_nil]; decide) (hc : X.calm = true := by rfl) (hdb : (cn == ("__debug__" : Str)) = false := by decide +kernel)
    (he : starEach (e :: es) X.env = (false, eval e X.env) :: starEach es X.env := by rfl) (hpl : (backTo pos (starEach es X.env)).any (·.1) = false := by rfl) :
    XG1 X (.Raise (some (.Call (.Name cn p) (e :: es) [] pos)) none pos') ρ (errF cn ns fs) ρ := fun B0 B σ H0 H Dn W tk j k => by
  obtain ⟨C, fI, fd, ps, hC, hm, T, iC, tI, F, hb⟩ := G.ex
  refine ⟨_, L2N.ps_raise hc tk (pmk_oexN T iC tI F hr hb (fun _ _ _ _ _ _ _ h => h.elim) hg hm pa_star hdb he hpl), ha B0 B σ H0 H _ j fun vs G0 G g r => ⟨by rw [← DRs.length r]; exact hl, fun a na => ?_⟩⟩
  have g0a : G0 a = none := g.sh.free na
  have ee : er (upd G a (exo a C none)) a = G := by
    funext b
    by_cases hb : b = a
    · subst hb; rw [er_same, na]
    · rw [er_ne hb, upd_ne hb]
  rw [List.append_nil]
  refine ⟨G0, a, ds, fs, vs, rfl, fun b u z => ?_, upd_same, g0a, r, hR, fun dx us L0 L gg n1 n2 n3 n4 n5 n6 n7 => ⟨rfl, dx, ns.zip us, n2, n3, ?_, ?_⟩⟩
  · rw [upd_ne (ne_of_none z g0a)]; exact g.sh _ _ z
  · have hda : dx ≠ a := fun z => by subst z; rw [upd_same] at n4; cases n4
    rw [upd_ne hda] at n4; exact n4
  have hda : dx ≠ a := fun z => by subst z; rw [upd_same] at n4; cases n4
  have gd : G dx = none := by rw [upd_ne hda] at n4; exact n4
  rw [ee] at gg
  have s0 : Same L0 (upd L0 dx (.xd (ns.zip us))) := fun b u z => by rw [upd_ne (ne_of_none z n5)]; exact z
  have gN : JH G0 G (upd L0 dx (.xd (ns.zip us))) (upd (L2.del L a) dx (.xd (ns.zip us))) := by
    refine ⟨gg.s0.trans s0, fun b u z => ?_, fun b u z => ?_, fun b u z nt z' => ?_⟩
    · by_cases hb : b = dx
      · subst hb; rw [upd_same] at z ⊢; exact z
      · rw [upd_ne hb] at z ⊢
        have ha2 : b ≠ a := fun q => by subst q; rw [n1] at z; cases z
        rw [L2.del_ne ha2]; exact gg.sh _ _ z
    · have hb : b ≠ dx := fun q => by subst q; rw [gd] at z; cases z
      have ha2 : b ≠ a := fun q => by subst q; rw [na] at z; cases z
      rw [upd_ne hb, L2.del_ne ha2]; exact gg.sB _ _ z
    · have hb : b ≠ dx := fun q => by subst q; rw [gd] at z; cases z
      rw [upd_ne hb]; exact gg.fr _ _ z nt z'
  exact k _ _ σ _ _ ⟨C, dx, us, hC, rfl, rfl, upd_same, n6, DRs.mono s0 _ _ n7⟩ (j.grow (g.trans gN))
end
def spXG (K : PySem.W.Frag) (R : List D → Err → Prop) : Sp := fun vs H _ E => ∃ H0 ds Θ, Same H0 H ∧ DRs K H0 ds vs ∧ R ds Θ ∧ ∀ v d H0' H', Θ K v d H0' → JH H0 H H0' H' → E v d H'
structure FnXG (P : Program) (w : World) (K : PySem.W.Frag) (mg : Str → Option Value) (base : Heap) (x : Str) (k : Nat) (R : List D → Err → Prop) : Prop where
  ex : ∃ f fd ps, FnOk P w K mg base (L2N.CX P w) k f fd ps (spXG K R) ∧ mg x = some (.ref f) ∧ PySem.W.keepIn K (.ref f) = true ∧ Binds K fd ps []
section
variable {P : Program} {w : World} {K : PySem.W.Frag} {mg : Str → Option Value} {base : Heap}
theorem fn_okXG {x qual : Str} {st : Stmt} {f : Addr} {fd : FuncData} {N ps : List Str} {k : Nat} {R : List D → Err → Prop} (F : Fun K x qual st f fd) (S : FnScope N ps (defScope st)) (hR : ∀ ds c, R ds c → ds.length = ps.length)
    (h : ∀ ds c, R ds c → ∀ (cdv : Value) (A : Around) (outer : List Env) (s : Shared) (H : Hp) (E : XK), Room k (A.deeper (envOfC qual (defScope st) s.heap.objs.size f cdv)) →
      ∃ ρx, XG (bxN P w K mg base N qual st f cdv A outer s H E) (defBody st) (en N ds) c ρx) : FnOk P w K mg base (L2N.CX P w) (k + 1) f fd ps (spXG K R) := by
  refine F.okXN S (fun vs H Q E hs => ?_) fun cdv A outer s H vs Q E hr hs => ?_
  · obtain ⟨H0, ds, d, _, r, q, _⟩ := hs
    rw [← DRs.length r]; exact hR ds d q
  · obtain ⟨H0, ds, c, s0, r, q, kk⟩ := hs
    have hN : ds.length ≤ N.length := by
      have h1 := hR ds c q
      have h2 := congrArg List.length S.pre
      rw [List.length_take] at h2
      omega
    obtain ⟨ρx, h0⟩ := h ds c q cdv A outer s H E hr
    obtain ⟨t, h1, h2⟩ := h0 H0 H (L2.start N vs) H0 H { nx := fun _ H' => Q .non H', rt := Q } (fun cls d _ H' => E cls d H') (L2N.takes_of rfl rfl rfl rfl) (j_start s0 r hN) fun v d σ' G0 G t j' => kk v d G0 G t j'.hp
    exact ⟨t, h1, h2⟩
end
section
variable {X : Cx} {ρ ρx : En} {e o : Expr} {es : List Expr} {pos p apos : Pos} {Θ : Err} {ds fds : List D} {ns : List Str} {cn m : Str} {k : Nat} {pl : Sem Bool}
theorem eg_call {x : Str} {R : List D → Err → Prop} (G : FnXG X.prog X.w X.K X.mg X.base x k R) (hr : Room k X.A) (hg : Gl X x) (ha : AD X ρ (e :: es) ds) (hR : R ds Θ)
    (hdb : (x == ("__debug__" : Str)) = false := by decide) (he : starEach (e :: es) X.env = (false, eval e X.env) :: starEach es X.env := by rfl) (hpl : (backTo pos (starEach es X.env)).any (·.1) = false := by rfl) :
    EG X ρ (.Call (.Name x p) (e :: es) [] pos) Θ := fun B0 B σ H0 H Q W tk j k => by
  obtain ⟨f, fd, ps, F, hm, hk, hb⟩ := G.ex
  refine RE.of (pe_callS (E := WE W) F hr hg hm hk hb (fun σ => L2N.passAt tk σ) pa_star hdb he hpl) (ha B0 B σ H0 H _ j fun vs G0 G g r => ?_)
  exact ⟨G0, ds, Θ, g.sh, r, hR, fun v d L0 L t g2 => k v d L0 L t (g.trans g2)⟩
/-- for x in xs: the k-th turn raises -/
theorem xg_for {tg iter : Expr} {body : List Stmt} {α : Type} {zs : List D} (xs : List α) (enc : α → D) (hc : X.calm = true) (hi : ID X ρ tg iter zs) (he : zs = xs.map enc) (I : Nat → En → Prop) (h0 : I 0 ρ) (n : Nat) {y : α} (hn : xs[n]? = some y)
    (hs : ∀ i x ρ', i < n → xs[i]? = some x → I i ρ' → ∃ is ρ'', DG X is tg (enc x) ρ' ρ'' ∧ WSs X body ρ'' (fun o => match o with | .nx r => I (i + 1) r | .ct r => I (i + 1) r | _ => False)) (hx : ∀ ρ', I n ρ' → ∃ is ρ'', DG X is tg (enc y) ρ' ρ'' ∧ XG X body ρ'' Θ ρx)
    (hp : PassesOwn (model X.prog X.w) X.A X.env X.xe) (hf : ∀ x, foldedSetIterable iter X.env x = pure x := by intro _; rfl) : XG1 X (.For tg iter body [] pos) ρ Θ ρx := fun B0 B σ H0 H Dn W tk j kk => by
  subst he
  refine ⟨_, ps_for hp hc pi_star pg_star pss_star hf, hi B0 B σ H0 H _ j fun Jt G0 G g0 ⟨GG, Y, w, hG, hY⟩ => ?_⟩
  have j0 := j.grow g0
  have hnl : n < xs.length := (List.getElem?_eq_some_iff.mp hn).1
  refine for_it w (fun i σ' H1 => i ≤ n ∧ ∃ ρ' L0, I i ρ' ∧ J X.K G0 B σ' L0 H1 ρ') ⟨Nat.zero_le _, ρ, G0, h0, j0.rebase⟩ (fun i σ' H1 _ ⟨_, ρ', L0, _, j1⟩ => hG L0 H1 j1.hp.s0 j1.hp.sh) ?_ ?_
  · rintro i x σ1 H1 H1' hi ⟨hin, ρ1, L0, hI, j1⟩ hy
    have hxl : i < xs.length := by rwa [List.length_map] at hi
    have hxi : xs[i]? = some xs[i] := List.getElem?_eq_getElem hxl
    obtain ⟨L1, g2, rx⟩ := hY i L0 H1 x H1' (enc xs[i]) (by rw [List.getElem?_map, hxi]; rfl) j1.hp.s0 j1.hp.sh hy
    rcases Nat.lt_or_eq_of_le hin with hlt | heq
    · obtain ⟨is, ρ2, hg, hb⟩ := hs i xs[i] ρ1 hlt hxi hI
      refine hg G0 B σ1 L1 H1' x _ (j1.grow g2) rx fun σ2 j2 _ => hb G0 B σ2 L1 H1' _ j2 fun o ho => ?_
      cases o with
      | nx r => exact fun σ3 M0 M j3 => ⟨hlt, r, M0, ho, j3⟩
      | ct r => exact fun σ3 M0 M j3 => ⟨hlt, r, M0, ho, j3⟩
      | bk r => exact ho.elim
      | rt v => exact ho.elim
      | ro c => exact ho.elim
      | rc v cs => exact ho.elim
    · subst heq
      rw [hxi] at hn; cases hn
      obtain ⟨is, ρ2, hg, hb⟩ := hx ρ1 hI
      exact hg G0 B σ1 L1 H1' x _ (j1.grow g2) rx fun σ2 j2 _ => hb G0 B σ2 L1 H1' _ W tk j2 fun v d σ3 M0 M t j3 => kk v d σ3 M0 M t (j0.unbase j3)
  · rintro σ1 H1 ⟨hle, _⟩
    rw [List.length_map] at hle
    omega
end
end DL
namespace DL
open PySem PySem.Spec PyProof.Rows L2
/-- the fields of errors of the class named cn may be read -/
structure Xf (K : PySem.W.Frag) (cn : Str) (ns : List Str) : Prop where
  ex : ∃ C, PySem.W.nsIn K mainGlobals cn = some (some (.ref C)) ∧ XfC K C ∧ ∀ f ∈ ns, PySem.W.findIn K (.ref C) f = some none
/-- what a class object says of an own class of errors -/
def oexD (C : Addr) (cd : ClassData) (sl : Array (Option Value)) : Bool := match cd.mro, sl.toList with
  | .ref C' :: bm, [_, _, _, _, some (.builtin n), _] => decide (C' = C) && (decide (n = "ValueError.__new__") && (!cd.hasDel && (cd.hasDict && PySem.HandSPX.refsVE bm)))
  | _, _ => false
theorem oex_mk {K : PySem.W.Frag} {C : Addr} {dd : Option Addr} {cd : ClassData} {sl : Array (Option Value)} (l : K.lookup C = some ⟨.type "type", dd, .cls cd, sl⟩) (o : oexD C cd sl = true) (sa : PySem.W.findIn K (.ref C) "__setattr__" = some (some (.builtin "object.__setattr__")))
    (ex : PySem.W.subIn K (.ref C) (.type "BaseException") = some true) (ty : PySem.W.typeIn K (.ref C) = some (.type "type")) (kp : PySem.W.keepIn K (.ref C) = true) : OexC K C := by
  refine ⟨?_, sa, ex, ty, kp⟩
  unfold oexD at o
  obtain ⟨nm, bs, mro, nsp, qn, hd, sn, sub, ab, col, del⟩ := cd
  split at o
  · rename_i C' bm k0 k1 k2 k3 n k5 hm hsl
    simp only [Bool.and_eq_true, decide_eq_true_eq, Bool.not_eq_true'] at o
    obtain ⟨rfl, rfl, hdel, hhd, hre⟩ := o
    simp only at hm hdel hhd
    subst hm hdel hhd
    have : sl = #[k0, k1, k2, k3, some (.builtin "ValueError.__new__"), k5] := by rw [← hsl]
    subst this
    exact ⟨nm, qn, nsp, bs, bm, sn, sub, ab, col, dd, k0, k1, k2, k3, k5, l, hre⟩
  · cases o
theorem takes0N {X : Cx} : L2N.Takes X (fun _ _ _ _ => False) := fun _ _ ⟨_, _, _, _, _, _, _, _, _, _, _, _, _, _, _, _, z⟩ => z.elim
section
variable {X : Cx} {ρ ρx : En} {pos : Pos} {Φ : Out → Prop} {cn : Str}
/-- try: .. except xn as n, an error with fields -/
theorem ws_tryF (i : Nat) {body suite : List Stmt} {b0 : Stmt} {n xn : Str} {ns : List Str} {ds : List D} {np pos' : Pos} (hN : X.N.Nodup) (xm : Xm X.K X.mg cn xn) (hg : Gl X xn) (hb : ∀ pn xe, PassesOwn (model X.prog X.w) X.A X.env xe → XG (X.tr pn xe) body ρ (errF cn ns ds) ρx)
    (hs : ∀ a C x oe pn, PySem.W.nsIn X.K mainGlobals cn = some (some (.ref C)) → L2N.Zn (.ref C) (some x) oe → (∃ vs, oe.data = .fields vs) → WSs (X.suite a ((a, oe) :: pn)) (b0 :: suite) (ρx.set i (.sh (.exc a x ns ds))) (Aft i Φ))
    (hi : X.N[i]? = some n := by rfl) (hdb : (xn == ("__debug__" : Str)) = false := by decide +kernel) (hln : X.env.kindOf n = some .local := by rfl) (hst : X.stack = X.env :: X.outer := by rfl) (hf : X.env.frame = some X.env.locals := by rfl) :
    WS X (.Try body [.ExceptHandler (some (.Name xn np)) (some n) (b0 :: suite) pos'] [] [] pos) ρ Φ := fun B0 B σ H0 H Dn j k => by
  obtain ⟨C, D, hC, hD, hex⟩ := xm.ex
  refine ⟨_, L2N.ps_try_as (i := i) (Wout := fun _ _ _ _ => False) (tb := fun W D σ H => ∀ pn xe, L2N.Takes (X.tr pn xe) W → PassesOwn (model X.prog X.w) X.A X.env xe → RSs (X.tr pn xe) body D σ H)
    (ts := fun a cls d D σ H => ∀ oe pn, L2N.Zn cls d oe → (∃ vs, oe.data = .fields vs) → RSs (X.suite a ((a, oe) :: pn)) (b0 :: suite) D σ H) hst hf hN hi hln (show Names X xn (.ref D) from ⟨hg, hdb, .inl hD⟩) takes0N
    (fun W pn xe tk po => ⟨fun pins s σ H D I h => pss_star.run pins s σ H D I (h pn xe tk po)⟩) (fun a oe cls d pn hz hf => ⟨fun pins s σ H D I h => pss_star.run pins s σ H D I (h oe pn hz hf)⟩), ?_⟩
  intro pn xe tk po
  refine hb pn xe po B0 B σ H0 H Dn _ tk j fun v d σ' L0 L t j' => ?_
  obtain ⟨C', x, us, hC', rfl, rfl, hx, hlen, hds⟩ := t
  have hC'' : PySem.W.nsIn X.K mainGlobals cn = some (some (.ref C')) := hC'
  rw [hC] at hC''; cases hC''
  refine ⟨true, hex, fun _ a ha oe pn' hz hfl => ?_, fun z => nomatch z⟩
  refine hs a C x oe pn' hC hz hfl B0 B _ L0 L _ (J.setSh j' (d := .exc a x ns ds) (v := .ref a) ⟨rfl, us, hx, hlen, hds⟩) fun o ho => ?_
  cases o with
  | nx ρ' => exact fun σ'' M0 M j2 => k _ ho _ M0 M (J.setNo j2 i)
  | bk ρ' => exact fun σ'' M0 M j2 => k _ ho _ M0 M (J.setNo j2 i)
  | ct ρ' => exact fun σ'' M0 M j2 => k _ ho _ M0 M (J.setNo j2 i)
  | rt d => exact k _ ho
  | ro c => exact k _ ho
  | rc d cs => exact k _ ho
/-- e.f of an error that a suite holds -/
theorem ed_xfld {a x C : Addr} {oe : Obj} {pn : List (Addr × Obj)} {e : Expr} {f : Str} {ns : List Str} {ds : List D} {d : D} (m : Nat) (xf : Xf X.K cn ns) (hC : PySem.W.nsIn X.K mainGlobals cn = some (some (.ref C))) (hz : L2N.Zn (.ref C) (some x) oe) (hf : ∃ vs, oe.data = .fields vs)
    (he : ED (X.suite a ((a, oe) :: pn)) ρ e (.exc a x ns ds)) (hn : ns[m]? = some f := by rfl) (hd : ds[m]? = some d := by rfl) (hu : (ns.take m).contains f = false := by decide +kernel) (hb : attributeBase e f X.env (eval e X.env) = eval e X.env := by rfl) :
    ED (X.suite a ((a, oe) :: pn)) ρ (.Attribute e f pos) d := fun B0 B σ H0 H Q j k => by
  obtain ⟨C', hC', T, hno⟩ := xf.ex
  rw [hC] at hC'; cases hC'
  refine RE.of (pe_xf T (hno f (List.mem_of_getElem? hn)) hz.zc hf pe_star hb) (he B0 B σ H0 H _ j fun v G0 G g r => ?_)
  obtain ⟨rfl, us, h1, h2, h3⟩ := r
  obtain ⟨v, hv, rv⟩ := DRs.get h3 hd
  exact ⟨rfl, rfl, x, _, v, rfl, g.sh _ _ h1, zip_at hn hu hv, k v G0 G g rv⟩
end
end DL
namespace DL
open PySem PySem.Spec PyProof.Rows L2
section
variable {X : Cx} {ρ ρx : En} {pos : Pos} {Φ : Out → Prop} {cn : Str} {Θ : Err}
theorem ws_tryFS (i : Nat) {body suite : List Stmt} {b0 : Stmt} {n xn : Str} {ns : List Str} {ds : List D} {np pos' : Pos} (hN : X.N.Nodup) (xm : Xm X.K X.mg cn xn) (hg : Gl X xn) (hb : ∀ pn xe, PassesOwn (model X.prog X.w) X.A X.env xe → XG (X.tr pn xe) body ρ (errF cn ns ds) ρ)
    (hs : ∀ a C x oe pn, PySem.W.nsIn X.K mainGlobals cn = some (some (.ref C)) → L2N.Zn (.ref C) (some x) oe → (∃ vs, oe.data = .fields vs) → WSs (X.suite a ((a, oe) :: pn)) (b0 :: suite) (ρ.set i (.sh (.exc a x ns ds))) (Aft i Φ))
    (hi : X.N[i]? = some n := by rfl) (hdb : (xn == ("__debug__" : Str)) = false := by decide +kernel) (hln : X.env.kindOf n = some .local := by rfl) (hst : X.stack = X.env :: X.outer := by rfl) (hf : X.env.frame = some X.env.locals := by rfl) :
    WS X (.Try body [.ExceptHandler (some (.Name xn np)) (some n) (b0 :: suite) pos'] [] [] pos) ρ Φ := ws_tryF i hN xm hg hb hs hi hdb hln hst hf
end
end DL
namespace DL
open PySem PySem.Spec PyProof.Rows L2
def nosE (n : Nat) : En := List.replicate n .no
theorem J.nos {K : PySem.W.Frag} {B0 B H0 H : Hp} {σ : L2.St} {ρ : En} {n : Nat} (j : J K B0 B σ H0 H ρ) (h : ρ.length = n) : J K B0 B σ H0 H (nosE n) := by
  unfold nosE
  have key : ∀ (i : Nat) s, (List.replicate n Sl.no)[i]? = some s → s = .no := fun i s e => by
    rw [List.getElem?_replicate] at e
    split at e
    · exact (Option.some.inj e).symm
    · cases e
  refine ⟨j.hp, by rw [j.len, h, List.length_replicate], fun i s ov h1 _ => ?_, fun i k s s' ov ov' a h1 _ _ _ w _ => ?_⟩
  · rw [key i s h1]; trivial
  · rw [key i s h1] at w; exact w.elim
/-- nothing more is told of the slots -/
theorem xg_no {X : Cx} {sts : List Stmt} {ρ ρ' : En} {Θ : Err} {n : Nat} (h : XG X sts ρ Θ ρ') (hl : ρ'.length = n := by first | rfl | simp) : XG X sts ρ Θ (nosE n) := fun B0 B σ H0 H Dn W tk j k =>
  h B0 B σ H0 H Dn W tk j fun v d σ' H0' H' t j' => k v d σ' H0' H' t (j'.nos hl)
end DL
theorem L2H.RoomH.units {k : Nat} {A : PySem.Around} (r : L2H.RoomH k A) : A.units + 64 < PySem.cLine := by have := r.un; omega
namespace DL
open PySem PySem.Spec PySem.Calls PyProof.Rows L2
section
variable {prog : Program} {w : World} {A : Around} {E : Value → Shared → Prop} {s : Shared} {K : PySem.W.Frag} {x D0 : Addr} {ox : Obj} {od : Option Obj}
theorem fnd_cls {C : Addr} {m : Str} {a g : Value} (c : (PySem.W.clsIn K C).isSome = true) (e1 : PySem.W.findIn K (.ref C) m = some (some a)) (e2 : PySem.W.specialIn K a "__get__" = some (some g)) (e3 : PySem.W.takesIn K a = some true) : PySem.W.findObj K C od m = some (.bind g a) := by
  obtain ⟨cd, z⟩ := Option.isSome_iff_exists.mp c
  simp [PySem.W.findObj, z, e1, e2, e3]
theorem cls_exF {Q : Option Value → Shared → Prop} (T : ExcC K D0) (Y : K.In s.heap) (I : PySem.W.InstAt s.heap x ox D0 od) (q : Q (some (.ref D0)) { s with toks := s.toks + 1 }) : wpAny (model prog w) A (getAttr? (.ref x) "__class__") Q E s := by
  have fo : PySem.W.findObj K D0 od "__class__" = some (.bind (.builtin "getset_descriptor.__get__") (.builtin "object.__class__")) := fnd_cls (by obtain ⟨cd, z, _⟩ := PySem.W.any_some T.hd; rw [z]; rfl) T.ha T.hn T.ht
  obtain ⟨hp, gg, dr, tk, os⟩ := s
  have M0 := I.type (M := model prog w)
  have M1 := PySem.W.looks_findIn (M := model prog w) Y T.hg
  have M2 := PySem.W.looks_findIn (M := model prog w) Y T.hk
  have M3 := PySem.W.looks_find (M := model prog w) Y I fo
  have isB : PySem.W.Looks (model prog w) hp (isInstance (.ref x) (.type "BaseException")) true := M0.andThen (PySem.W.looks_subIn Y T.hs)
  have n0 : (false && onTheHeap (Value.builtin "BaseException.__getattribute__")) = false := rfl
  have n1 : (onTheHeap (Value.ref D0) && Value.builtin "BaseException.__getattribute__" == Value.builtin "object.__getattribute__") = false := by rw [show (Value.builtin "BaseException.__getattribute__" == Value.builtin "object.__getattribute__") = false by decide +kernel]; rfl
  unfold getAttr?; unfold getAttrBy?; unfold getAttrBy
  refine wpAny_bind (wpAny_mkText (wpAny_bind (wpAny_attempt (wpAny_holding (wpAny_bind (M0.at (wpAny_bind (M1.at ?_))))))))
  show wpAny _ _ (if (onTheHeap (Value.ref D0) && Value.builtin "BaseException.__getattribute__" == Value.builtin "object.__getattribute__") = true then _ else _) _ _ _
  rw [n1, if_neg Bool.false_ne_true]
  unfold getAttrByItsOwn hookBefore
  refine wpAny_bind ?_
  rw [if_pos (show onTheHeap (Value.ref D0) = true from rfl)]
  refine M2.at ?_; refine wpAny_bind (wpAny_attempt (wpAny_holding ?_))
  unfold callGetattribute
  rw [n0, if_neg Bool.false_ne_true]
  unfold boundAndCalled
  rw [PySem.F.excAttr_ValueError.ga.bind (.ref x)]; refine wpAny_bind (wpAny_pure ?_)
  show wpAny _ _ (call (.builtin "BaseException.__getattribute__") [.ref x, .str "__class__" tk]) _ _ _
  refine wpAny_call (codeAny_call_builtin PySem.F.excAttr_ValueError.ga.plain PySem.F.entry_bexc_ga ?_); refine @PySem.W.check_slot (model prog w) _ _ ⟨hp, gg, dr, tk + 1, os⟩ "BaseException.__getattribute__" "BaseException" "__getattribute__" (.ref x) [.str "__class__" tk] [] _ (by decide +kernel) (by decide +kernel) isB (PySem.F.args_bexc_ga (.ref x) (.str "__class__" tk)) ?_
  unfold Builtin.«object.__getattribute__»
  refine wpAny_bind (wpAny_of_eq (a := ((Value.ref x : Value), [Value.str "__class__" tk])) (by first | rfl | (simp only [slotArgs]; rfl)) ?_); refine wpAny_bind (wpAny_pure (wpAny_bind (M0.at (wpAny_bind (M3.at ?_)))))
  show wpAny _ _ (holding [Value.builtin "object.__class__"] (call (.builtin "getset_descriptor.__get__") [.builtin "object.__class__", .ref x, .ref D0]) >>= ret) _ _ _
  refine wpAny_bind (wpAny_holding (wpAny_call (PySem.W.class_get (s := ⟨hp, gg, dr, tk + 1, os⟩) (ox := ox) (od := od) Y I T.hm ?_))); refine wpAny_pure ?_
  show wpAny _ _ (handedOut (.ref D0)) _ _ _
  rw [PySem.W.handedOut_of (v := .ref D0) rfl]; first | exact wpAny_pure (wpAny_pure q) | exact wpAny_pure q | exact wpAny_pure (wpAny_bind (wpAny_pure (wpAny_pure q)))
theorem kitx_exF (T : ExcC K D0) : PySem.W.KitX K (.ref x) (.ref D0) (fun h => ∃ od, PySem.W.InstAt h x ox D0 od) where
  ty := fun _ _ _ ⟨_, I⟩ => I.type
  it := fun _ _ Y _ => by
    obtain ⟨cd, hc, _⟩ := PySem.W.any_some T.hd
    unfold PySem.W.clsIn at hc; split at hc
    · rename_i c' d' cd' sl' ho; intro A' Q' E' s' k q; unfold isType loadHead; exact wpAny_bind (wpAny_loadPart (k _ _ (Y _ _ ho)) (wpAny_pure q))
    · cases hc
  ne := fun h tp dd its n sl Y htp => by
    obtain ⟨cd, hc, _⟩ := PySem.W.any_some T.hd
    refine Bool.eq_false_iff.mpr fun q => ?_
    obtain rfl : D0 = tp := Value.ref.inj (beq_iff_eq.mp q)
    unfold PySem.W.clsIn at hc; split at hc
    · rename_i c' d' cd' sl' ho; cases (Y _ _ ho).symm.trans htp
    · cases hc
  ca := fun Y ⟨_, I⟩ k => cls_exF T Y I k
/-- isinstance(e, c), e the exception that the suite holds, z where its fields are -/
def rIsF (K : PySem.W.Frag) (D0 a z : Addr) : List V → Hp → VK → Prop := fun xs H Q => ∃ (c : V) (cv : Value) (b : Bool) (fs : List (Str × V)), xs = [.ref a, c] ∧ (∀ u, RelV c u → u = cv) ∧ PySem.W.kitOne K (.ref D0) cv = some b ∧ H z = some (.xd fs) ∧ Q (.bl b) H
theorem call_isF {X : Cx} {a z : Addr} {oe : Obj} {pn : List (Addr × Obj)} (C : ExcC X.K D0) (hz : Zc (.ref D0) (some z) oe) (hf : ∃ vs, oe.data = .fields vs) : CallR (X.suite a ((a, oe) :: pn)) (.builtin "isinstance") (rIsF X.K D0 a z) := by
  intro pins s σ H xs us Q I r h
  obtain ⟨c, cv, b, fs, rfl, hcv, e, ea, q⟩ := h
  cases r with
  | cons rx rr =>
    cases rr with
    | cons rt rr =>
      cases rr; cases rx
      have ec := hcv _ rt
      subst ec
      obtain ⟨hget, _⟩ := I.pin (a, oe) (List.mem_append_left _ List.mem_cons_self)
      obtain ⟨vs, hv⟩ := hf
      have hx : ObjOk X.prog X.w H s.heap z (.xd fs) := I.hok z _ ea
      obtain ⟨mA, hns, hr⟩ := hx
      obtain ⟨od, ho, hl⟩ := lookIn_ns hns
      have J : ∃ od, PySem.W.InstAt s.heap a oe D0 od := ⟨some od, hget, hz.1, by unfold PySem.W.notCls; rw [hv] <;> rfl, by rw [hz.2]; exact ho⟩
      exact PySem.W.kia_one (kitx_exF C) I.kIn J e (fun z => nomatch z) fun tk => ⟨.bl b, H, I.kept (t' := tk) fun _ _ z => z, rfl, q⟩
structure Xe (K : PySem.W.Frag) (cn : Str) : Prop where
  ex : ∃ C, PySem.W.nsIn K mainGlobals cn = some (some (.ref C)) ∧ L2.ExcC K C
/-- isinstance(e, c), e a caught error with fields -/
theorem ed_isEF {X : Cx} {ρ : En} {cn : Str} {a x C : Addr} {oe : Obj} {pn : List (Addr × Obj)} {e : Expr} {c : Str} {b : Bool} {ns : List Str} {ds : List D} {p1 p2 pos : Pos} (xc : Xe X.K cn) (xi : Xi X.K X.mg cn c b) (hC : PySem.W.nsIn X.K mainGlobals cn = some (some (.ref C))) (hz : L2N.Zn (.ref C) (some x) oe) (hf : ∃ vs, oe.data = .fields vs) (hg : Gl X "isinstance") (hm : X.mg "isinstance" = none) (hgc : Gl X c)
    (he : ED (X.suite a ((a, oe) :: pn)) ρ e (.exc a x ns ds)) (hdc : (c == ("__debug__" : Str)) = false := by decide +kernel)
    (h1 : starEach [e, .Name c p2] X.env = (false, eval e X.env) :: starEach [.Name c p2] X.env := by rfl) (h2 : starEach [.Name c p2] X.env = (false, eval (.Name c p2) X.env) :: starEach [] X.env := by rfl) (h3 : (backTo pos (starEach [.Name c p2] X.env)).any (·.1) = false := by rfl) :
    ED (X.suite a ((a, oe) :: pn)) ρ (.Call (.Name "isinstance" p1) [e, .Name c p2] [] pos) (.bl b) := fun B0 B σ H0 H Q j k => by
  obtain ⟨C1, hC1, hx⟩ := xc.ex
  obtain ⟨C2, D2, hC2, hD, hk⟩ := xi.ex
  rw [hC] at hC1 hC2; cases hC1; cases hC2
  refine RE.of (pe_callB (call_isF hx hz.zc hf) hg hm bb_isinstance (pa_cons pe_star (pa_cons (pe_glob (v := .ref D2) hgc hD rfl hdc) pa_nil h2) h1) (by decide) (by decide) h1 h3) (he B0 B σ H0 H _ j fun v G0 G g r => ?_)
  obtain ⟨rfl, vs, h5, h6, h7⟩ := r
  exact ⟨.ref D2, .ref D2, b, _, rfl, fun u h => h, hk, g.sh _ _ h5, k _ G0 G g rfl⟩
end
end DL
namespace DL
open PySem PySem.Spec PyProof.Rows L2
local instance (priority := 2000) keyBEq6 : BEq Key := instBEqOfDecidableEq
def badNm : List Str := ["", "a234567890123", "Ab", "a_b", "9a", "a-", "aB1", "a."]
theorem badNm_no : ∀ x ∈ badNm, nameB x = false ∧ x.length ≤ 1000 := by
  have : badNm.all (fun x => !nameB x && decide (x.length ≤ 1000)) = true := by decide +kernel
  intro x hx
  have h := List.all_eq_true.mp this x hx
  simp only [Bool.and_eq_true, Bool.not_eq_true', decide_eq_true_eq] at h
  exact h
def badAt (d : Int) : Str := badNm.getD (d % 8).toNat ""
theorem badAt_no (d : Int) : nameB (badAt d) = false ∧ (badAt d).length ≤ 1000 := by
  refine badNm_no _ ?_
  unfold badAt
  have h1 := Int.emod_nonneg d (b := 8) (by decide)
  have h2 := Int.emod_lt_of_pos d (b := 8) (by decide)
  have hi : (d % 8).toNat < badNm.length := by show _ < 8; omega
  rw [List.getD_eq_getElem?_getD, List.getElem?_eq_getElem hi]
  exact List.getElem_mem hi
theorem at_getI {α : Type} {xs : List α} {f : α → D} {i : Int} {a : α} (h : 0 ≤ i ∧ i < xs.length) : atI (xs.map f) i = some (f (xs.getD i.toNat a)) := by
  have hi : i.toNat < xs.length := by omega
  refine atI_nn h.1 ?_
  rw [List.getElem?_map, List.getElem?_eq_getElem hi, List.getD_eq_getElem?_getD, List.getElem?_eq_getElem hi]
  rfl
end DL
namespace DL
open PySem PySem.Spec PyProof.Rows L2
def sRep (x : Str) (n : Nat) : Str := ⟨(List.replicate n x.cps).foldl (· ++ ·) #[]⟩
theorem rep_size (a : Array Nat) : ∀ (n : Nat) (acc : Array Nat), ((List.replicate n a).foldl (· ++ ·) acc).size = acc.size + n * a.size
  | 0, acc => by simp
  | n + 1, acc => by
    rw [List.replicate_succ, List.foldl_cons, rep_size a n, Array.size_append, Nat.succ_mul]
    omega
theorem sRep_len (x : Str) (n : Nat) : (sRep x n).length = n * x.length := by
  show ((List.replicate n x.cps).foldl (· ++ ·) #[]).size = _
  rw [rep_size]; simp; rfl
section
variable {X : Cx}
theorem op_mulS : OpR X (binaryOp .Mult) (fun x y H Q => ∃ (i : Str) (n : Nat), x = .str i ∧ y = .int (n : Int) ∧ 2 ≤ n ∧ n ≤ 1000 ∧ 0 < i.length ∧ i.length ≤ 1000 ∧ Q (.str (sRep i n)) H) := by
  intro pins s σ H x y v u Q I rx ry h
  obtain ⟨i, n, rfl, rfl, h2, hn, h0, hi, q⟩ := h
  obtain ⟨t, rfl⟩ := rx
  obtain ⟨t', rfl⟩ := ry
  have e1 : ((n : Int) == 1 || i.length == 0) = false := by
    rw [Bool.or_eq_false_iff]
    exact ⟨beq_eq_false_iff_ne.mpr (by omega), beq_eq_false_iff_ne.mpr (by omega)⟩
  have hm : i.length * n ≤ 1000 * 1000 := Nat.mul_le_mul hi hn
  refine PySem.P.mul_str ?_ (fun _ _ => ?_) (fun _ _ => ?_) ?_
  · rw [Bool.or_eq_false_iff]
    exact ⟨decide_eq_false (by omega), decide_eq_false (by omega)⟩
  · intro z
    have : (i.length : Int) ≤ (2 ^ 63 - 1) / (n : Int) := by
      rw [Int.le_ediv_iff_mul_le (by omega)]
      have : ((i.length * n : Nat) : Int) ≤ 1000000 := by omega
      rw [Int.natCast_mul] at this
      omega
    omega
  · unfold Builtin.Str.tooLong
    refine decide_eq_false ?_
    rw [sizeLine_eq, Int.toNat_natCast]
    omega
  · rw [if_neg (by omega), if_neg (by rw [e1]; decide), Int.toNat_natCast]
    exact ⟨by rw [show (⟨List.foldl (fun x1 x2 => x1 ++ x2) #[] (List.replicate n i.cps)⟩ : Str).length = n * i.length from sRep_len i n, sizeLine_eq, Nat.mul_comm]; omega, .str (sRep i n), H, I.tok _, ⟨_, rfl⟩, q⟩
theorem b2_mulS {i : Str} {n : Nat} (h2 : 2 ≤ n) (hn : n ≤ 1000) (h0 : 0 < i.length) (hi : i.length ≤ 1000) : B2 X .Mult (.str i) (.int (n : Int)) (.str (sRep i n)) := ⟨_, op_mulS, o2_keep _ (fun _ => rfl) fun _ _ _ _ _ _ r1 r2 q => ⟨i, n, r1, r2, h2, hn, h0, hi, q⟩⟩
end
end DL
namespace DL
open PySem PySem.Spec PyProof.Rows L2
def dgW (w : Str) : Str := if Txt.startswith w "-" = true then cutS w (some 1) none else w
def isIB (w : Str) : Bool := (Txt.isdigit (dgW w) && decide ((dgW w).length ≤ 30)) && (decide (w = ("0" : Str)) || !decide (sgn ((dgW w).cps.toList.getD 0 0) = ("0" : Str)))
theorem Rz.dgW {i : Int} (h : Rz i) : DL.dgW (stI i) = dgI i := by
  unfold DL.dgW
  rw [h.starts]
  by_cases hs : i < 0
  · rw [if_pos (decide_eq_true hs)]; exact cut_min hs
  · rw [if_neg (by simpa using hs)]; exact stI_pos (by omega)
theorem Rz.isI {i : Int} (h : Rz i) : isIB (stI i) = true := by
  unfold isIB
  rw [h.dgW, h.head, Bool.and_true, Bool.and_eq_true]
  exact ⟨h.rd.isdigit, decide_eq_true h.dlen⟩
theorem RdI.rz {i : Int} (h : RdI i) : Rz i := ⟨by have := h.b; omega⟩
inductive RdW : List Str → Option (List Int) → Prop where
  | ok (ns : List Int) (h : ∀ i ∈ ns, Rz i) : RdW (ns.map stI) (some ns)
  | bad (ws : List Str) (w : Str) (hw : w ∈ ws) (h : isIB w = false) : RdW ws none
def optT : Option (List Int) → D
  | some ns => .tup (ns.map .int)
  | none => .non
theorem RdW.all {ws : List Str} {o : Option (List Int)} (h : RdW ws o) : (ws.map isIB).all id = o.isSome := by
  cases h with
  | ok ns hz =>
    rw [List.all_map, List.all_map]
    exact List.all_eq_true.mpr fun i hi => (hz i hi).isI
  | bad ws w hw h =>
    cases e : (ws.map isIB).all id with
    | false => rfl
    | true =>
      have := List.all_eq_true.mp e (isIB w) (List.mem_map.mpr ⟨w, hw, rfl⟩)
      rw [h] at this; cases this
/-- words of which it is known -/
def Kn (w : Str) : Prop := (∃ i, Rz i ∧ w = stI i) ∨ isIB w = false
inductive NmBad (n : Int) (dn : List Nm) : List Str → Prop where
  | a (ws : List Str) (o : Option (List Int)) (r : RdW (ws.drop 2) o) (h : ws.length ≠ 3 ∨ ws.headD "" ≠ "name" ∨ o = none) : NmBad n dn ws
  | b (nm : Str) (i : Int) (hi : Rz i) (h : ¬ (lastN dn < i ∧ i < n) ∨ nameB nm = false ∨ nm ∈ dn.map (·.2)) : NmBad n dn ["name", nm, stI i]
inductive DvBad (n : Int) : List Str → Prop where
  | a (ws : List Str) (o : Option (List Int)) (r : RdW (ws.drop 2) o) (h : ws.length ≠ 7 ∨ ws.headD "" ≠ "device" ∨ o = none) : DvBad n ws
  | b (v : Dev) (hz : ∀ i ∈ ([v.g, v.a, v.b, v.w, v.l] : List Int), Rz i) (h : devB n v = false) : DvBad n (wV v)
inductive FsBad : List Str → Prop where
  | a (ws : List Str) (o : Option (List Int)) (r : RdW (ws.drop 1) o) (h : ws.length ≠ 2 ∨ ws.headD "" ≠ "nets" ∨ o = none) : FsBad ws
  | b (i : Int) (hi : Rz i) (h : ¬ (0 ≤ i ∧ i ≤ 200)) : FsBad (wN i)
structure XBad (n : Int) (N : List Nm) (V : List Dev) (ws : List Str) : Prop where
  nm : V = [] → NmBad n N ws
  dv : V.length < 200 → DvBad n ws
structure WsL (ws : List Str) : Prop where
  ne : ws ≠ []
  few : ws.length ≤ 9
  ok : ∀ w ∈ ws, WOk w
theorem WsL.len {ws : List Str} (h : WsL ws) : (lnW ws).length ≤ 400 := by
  have h0 := join_len " " ws
  have h1 := sumL_le (k := 41) (zs := ws) fun w hw => (h.ok w hw).n
  have := lens.2.2.2.1
  rw [this] at h0
  unfold lnW
  have : 41 * ws.length ≤ 41 * 9 := Nat.mul_le_mul_left _ h.few
  have := h.few
  omega
noncomputable def txW (W : List (List Str)) : Str := Str.join "\n" (W.map lnW)
/-- what stands behind the first line -/
def tlX (N : List Nm) (V : List Dev) (ww : List Str) (rr : List (List Str)) : List (List Str) := (N.map wQ ++ V.map wV) ++ ww :: rr
theorem tlX_len (N : List Nm) (V : List Dev) (ww : List Str) (rr : List (List Str)) : (tlX N V ww rr).length = N.length + V.length + 1 + rr.length := by unfold tlX; simp; omega
structure XTx (n : Int) (N : List Nm) (V : List Dev) (ww : List Str) (rr : List (List Str)) : Prop where
  t : TxOk n N V
  asc : N.Pairwise (fun p q => p.1 < q.1)
  bad : XBad n N V ww
  w : WsL ww
  r : ∀ ws ∈ rr, WsL ws
  l : rr.length ≤ 250
theorem TxOk.wl {n : Int} {N : List Nm} {V : List Dev} (t : TxOk n N V) {ws : List Str} (h : ws ∈ wsC n N V) : WsL ws := by
  obtain ⟨a, b, c⟩ := t.ws h
  exact ⟨a, by omega, c⟩
theorem XTx.all {n : Int} {N : List Nm} {V : List Dev} {ww : List Str} {rr : List (List Str)} (x : XTx n N V ww rr) : ∀ ws ∈ wN n :: tlX N V ww rr, WsL ws := fun ws h => by
  unfold tlX at h
  rcases List.mem_cons.mp h with rfl | h
  · exact x.t.wl (by unfold wsC; exact List.mem_cons_self)
  · rcases List.mem_append.mp h with h | h
    · exact x.t.wl (by unfold wsC; exact List.mem_cons_of_mem _ h)
    · rcases List.mem_cons.mp h with rfl | h
      · exact x.w
      · exact x.r ws h
theorem XTx.few {n : Int} {N : List Nm} {V : List Dev} {ww : List Str} {rr : List (List Str)} (x : XTx n N V ww rr) : (wN n :: tlX N V ww rr).length ≤ 1500 := by
  rw [List.length_cons, tlX_len]
  have := x.t.ok.nl; have := x.t.ok.vl; have := x.l
  omega
theorem join_app (s : Str) : ∀ {a b : List Str}, a ≠ [] → b ≠ [] → Str.join s (a ++ b) = Str.join s a ++ s ++ Str.join s b
  | [], _, h, _ => absurd rfl h
  | [x], y :: b, _, _ => rfl
  | [x], [], _, h => absurd rfl h
  | x :: y :: a, b, _, hb => by
    have ih := join_app s (a := y :: a) (b := b) (by simp) hb
    show x ++ s ++ Str.join s (y :: a ++ b) = x ++ s ++ Str.join s (y :: a) ++ s ++ Str.join s b
    rw [ih]
    simp only [app_assoc]
theorem ln_sfx {p : Str} {a : List Str} {w : Str} (ha : a ≠ []) (h : p = lnW a ++ (" " : Str)) : p ++ w = lnW (a ++ [w]) := by
  unfold lnW at h ⊢
  rw [h, join_app _ ha (by simp)]; rfl
theorem ln_inf {p q : Str} {a b : List Str} {w : Str} (ha : a ≠ []) (hb : b ≠ []) (h : p = lnW a ++ (" " : Str)) (h2 : q = (" " : Str) ++ lnW b) : p ++ w ++ q = lnW (a ++ [w] ++ b) := by
  rw [ln_sfx ha h, h2]
  unfold lnW
  rw [join_app _ (a := a ++ [w]) (by simp) hb]
  simp only [app_assoc]
def badIL : List Str := ["+5", "007", "-0", "1.5", "", "x", sRep "1" 31, "--2", "-", "5x", ("-" : Str) ++ sRep "9" 31, "00"]
def badIw (d : Int) : Str := badIL.getD (d % 12).toNat ""
def wokB (w : Str) : Bool := (!(TL.tl w).contains 32 && !(TL.tl w).contains 10) && decide (w.length ≤ 41)
theorem wok_of {w : Str} (h : wokB w = true) : WOk w := by
  unfold wokB at h
  rw [Bool.and_eq_true, Bool.and_eq_true, decide_eq_true_iff] at h
  refine ⟨fun m => ?_, fun m => ?_, h.2⟩
  · have h1 := h.1.1
    rw [List.contains_iff_mem.mpr m] at h1; cases h1
  · have h1 := h.1.2
    rw [List.contains_iff_mem.mpr m] at h1; cases h1
theorem badIL_no : badIL.all (fun w => !isIB w && wokB w) = true := by decide +kernel
theorem badI_no (d : Int) : isIB (badIw d) = false ∧ WOk (badIw d) := by
  have h : badIw d ∈ badIL := by
    unfold badIw
    have hl : (d % 12).toNat < badIL.length := by show _ < 12; omega
    rw [List.getD_eq_getElem?_getD, List.getElem?_eq_getElem hl]
    exact List.getElem_mem hl
  have := List.all_eq_true.mp badIL_no _ h
  rw [Bool.and_eq_true] at this
  exact ⟨by simpa using this.1, wok_of this.2⟩
theorem badAt_w (d : Int) : WOk (badAt d) := by
  have h : badAt d ∈ badNm := by
    unfold badAt
    have hl : (d % 8).toNat < badNm.length := by show _ < 8; omega
    rw [List.getD_eq_getElem?_getD, List.getElem?_eq_getElem hl]
    exact List.getElem_mem hl
  have h2 : badNm.all wokB = true := by decide +kernel
  exact wok_of (List.all_eq_true.mp h2 _ h)
theorem stI_lit : stI 0 = ("0" : Str) ∧ stI 1 = ("1" : Str) ∧ stI (-1) = ("-1" : Str) ∧ stI (-5) = ("-5" : Str) := by decide +kernel
theorem kz : ∀ w ∈ ([] : List Str), Kn w := fun _ h => by cases h
theorem kc {w : Str} {ws : List Str} (a : Kn w) (b : ∀ v ∈ ws, Kn v) : ∀ v ∈ w :: ws, Kn v := List.forall_mem_cons.mpr ⟨a, b⟩
theorem wz : ∀ w ∈ ([] : List Str), WOk w := fun _ h => by cases h
theorem wc {w : Str} {ws : List Str} (a : WOk w) (b : ∀ v ∈ ws, WOk v) : ∀ v ∈ w :: ws, WOk v := List.forall_mem_cons.mpr ⟨a, b⟩
theorem dgW_if (w : Str) : (if Txt.startswith w "-" = true then D.str (cutS w (some 1) none) else D.str w) = D.str (dgW w) := by unfold dgW; split <;> rfl
theorem cutS_le (w : Str) (a b : Option Int) : (cutS w a b).length ≤ w.length := by
  have e : (cutS w a b).length = (cutS w a b).cps.toList.length := by rw [Array.length_toList]; rfl
  have e2 : w.length = w.cps.toList.length := by rw [Array.length_toList]; rfl
  rw [e, e2]
  unfold cutS
  show ((w.cps.toList.drop _).take _).length ≤ _
  rw [List.length_take, List.length_drop]
  omega
theorem dgW_len (w : Str) : (dgW w).length ≤ w.length := by
  unfold dgW; split
  · exact cutS_le _ _ _
  · exact Nat.le_refl _
theorem isI_if {w : Str} (h : (Txt.isdigit (dgW w) && decide ((dgW w).length ≤ 30)) = true) : isIB w = (decide (w = ("0" : Str)) || !decide (sgn ((dgW w).cps.toList.getD 0 0) = ("0" : Str))) := by unfold isIB; rw [h, Bool.true_and]
theorem isI_no {w : Str} (h : (Txt.isdigit (dgW w) && decide ((dgW w).length ≤ 30)) = false) : isIB w = false := by unfold isIB; rw [h, Bool.false_and]
theorem at_hd {w : Str} (h : Txt.isdigit w = true) : atI w.cps.toList 0 = some (w.cps.toList.getD 0 0) := by
  unfold Txt.isdigit at h
  rw [Bool.and_eq_true, decide_eq_true_iff] at h
  have hl : 0 < w.cps.toList.length := by rw [Array.length_toList]; exact h.1
  exact atI_nat (j := 0) (by rw [List.getD_eq_getElem?_getD, List.getElem?_eq_getElem hl]; rfl)
theorem RdW.some {ws : List Str} {ns : List Int} (h : RdW ws (some ns)) : ws = ns.map stI ∧ ∀ i ∈ ns, Rz i := by
  cases h with
  | ok ns hz => exact ⟨rfl, hz⟩
/-- lines that are wrong, and where -/
inductive PX : List (List Str) → Int → Prop where
  | first (w0 : List Str) (W : List (List Str)) (h : FsBad w0) (hw : ∀ ws ∈ w0 :: W, WsL ws) (hl : (w0 :: W).length ≤ 1500) : PX (w0 :: W) 1
  | at (n : Int) (N : List Nm) (V : List Dev) (ww : List Str) (rr : List (List Str)) (x : XTx n N V ww rr) : PX (wN n :: tlX N V ww rr) (((2 : Nat) : Int) + ((N.length + V.length : Nat) : Int))
theorem PX.ok {W : List (List Str)} {k : Int} (h : PX W k) : W ≠ [] ∧ (∀ ws ∈ W, WsL ws) ∧ W.length ≤ 1500 := by
  cases h with
  | first w0 W h hw hl => exact ⟨by simp, hw, hl⟩
  | «at» n N V ww rr x => exact ⟨by simp, x.all, x.few⟩
theorem WsL.lens {ws : List Str} (h : WsL ws) : ∀ w ∈ ws, w.length ≤ 50 := fun w hw => by have := (h.ok w hw).n; omega
end DL
namespace DL
open PySem PySem.Spec PyProof.Rows L2
section
variable {X : Cx}
/-- an expression as a statement -/
theorem ws_exprD {ρ : En} {e : Expr} {pos : Pos} {d : D} {Φ : Out → Prop} (h : ED X ρ e d) (hΦ : Φ (.nx ρ)) (hs : swapsWith e none pos.line X.env = pure false := by rfl) : WS X (.Expr e pos) ρ Φ := fun B0 B σ H0 H Dn j k =>
  ⟨_, ps_expr pe_star hs, h B0 B σ H0 H _ j fun v G0 G g r => k _ hΦ _ _ _ (j.grow g)⟩
end
end DL
namespace DL
open PySem PySem.Spec PyProof.Rows L2
def wnC (n : Str) : List Str := ["cell", n]
def wnS (s : Shp) : List Str := ["shape", s.1, stI s.2.a, stI s.2.b, stI s.2.c, stI s.2.d]
def wnL (v : Lab) : List Str := ["label", v.n, v.l, stI v.x, stI v.y]
def wnP (v : Pla) : List Str := ["place", v.n, stI v.t, stI v.dx, stI v.dy, stI v.c, stI v.r, stI v.sx, stI v.sy]
structure WnS (s : Shp) : Prop where
  ok : shB s = true
  a : Rz s.2.a
  b : Rz s.2.b
  c : Rz s.2.c
  d : Rz s.2.d
structure WnL (v : Lab) : Prop where
  ok : labB v = true
  x : Rz v.x
  y : Rz v.y
structure WnP (v : Pla) : Prop where
  ok : plaB v = true
  t : Rz v.t
  dx : Rz v.dx
  dy : Rz v.dy
  c : Rz v.c
  r : Rz v.r
  sx : Rz v.sx
  sy : Rz v.sy
theorem WnL.n {v : Lab} (h : WnL v) : nameB v.n = true := by have := h.ok; unfold labB at this; simp only [Bool.and_eq_true] at this; exact this.1
theorem WnP.n {v : Pla} (h : WnP v) : nameB v.n = true := by have := h.ok; unfold plaB at this; simp only [Bool.and_eq_true] at this; exact this.1
end DL
namespace DL
open PySem PySem.Spec PyProof.Rows L2
/-- what a line of a library says -/
inductive LPart where
  | c (n : Str)
  | s (v : Shp)
  | l (v : Lab)
  | p (v : Pla)
def LPart.wd : LPart → Str
  | .c _ => "cell"
  | .s _ => "shape"
  | .l _ => "label"
  | .p _ => "place"
def LPart.ws : LPart → List Str
  | .c n => wnC n
  | .s v => wnS v
  | .l v => wnL v
  | .p v => wnP v
def LPart.v : LPart → D
  | .c n => .str n
  | .s v => shE v
  | .l v => v.e
  | .p v => v.e
def LPart.Ok : LPart → Prop
  | .c n => nameB n = true
  | .s v => WnS v
  | .l v => WnL v
  | .p v => WnP v
theorem kw_w : WOk ("cell" : Str) ∧ WOk ("shape" : Str) ∧ WOk ("label" : Str) ∧ WOk ("place" : Str) := by
  refine ⟨⟨?_, ?_, ?_⟩, ⟨?_, ?_, ?_⟩, ⟨?_, ?_, ?_⟩, ⟨?_, ?_, ?_⟩⟩ <;> decide +kernel
theorem lay_w {x : Str} (h : x ∈ layN) : WOk x := by
  simp only [layN, List.mem_cons, List.not_mem_nil, or_false] at h
  rcases h with rfl | rfl | rfl | rfl | rfl | rfl | rfl <;> exact ⟨by decide +kernel, by decide +kernel, by decide +kernel⟩
theorem labN_w {x : Str} (h : x ∈ labN) : WOk x := by
  simp only [labN, List.mem_cons, List.not_mem_nil, or_false] at h
  rcases h with rfl | rfl | rfl | rfl <;> exact ⟨by decide +kernel, by decide +kernel, by decide +kernel⟩
theorem LPart.wok : ∀ {x : LPart}, x.Ok → ∀ w ∈ x.ws, WOk w
  | .c n, h, w, hw => by
    simp only [LPart.ws, wnC, List.mem_cons, List.not_mem_nil, or_false] at hw
    rcases hw with rfl | rfl
    · exact kw_w.1
    · exact name_w h
  | .s v, h, w, hw => by
    have h : WnS v := h
    have hl : v.1 ∈ layN := by
      have := h.ok; unfold shB at this
      simp only [Bool.and_eq_true, decide_eq_true_eq] at this
      exact this.1
    simp only [LPart.ws, wnS, List.mem_cons, List.not_mem_nil, or_false] at hw
    rcases hw with rfl | rfl | rfl | rfl | rfl | rfl
    · exact kw_w.2.1
    · exact lay_w hl
    · exact h.a.w
    · exact h.b.w
    · exact h.c.w
    · exact h.d.w
  | .l v, h, w, hw => by
    have h : WnL v := h
    have hl : v.l ∈ labN := by
      have := h.ok; unfold labB at this
      simp only [Bool.and_eq_true, decide_eq_true_eq] at this
      exact this.2
    simp only [LPart.ws, wnL, List.mem_cons, List.not_mem_nil, or_false] at hw
    rcases hw with rfl | rfl | rfl | rfl | rfl
    · exact kw_w.2.2.1
    · exact name_w h.n
    · exact labN_w hl
    · exact h.x.w
    · exact h.y.w
  | .p v, h, w, hw => by
    have h : WnP v := h
    simp only [LPart.ws, wnP, List.mem_cons, List.not_mem_nil, or_false] at hw
    rcases hw with rfl | rfl | rfl | rfl | rfl | rfl | rfl | rfl | rfl
    · exact kw_w.2.2.2
    · exact name_w h.n
    · exact h.t.w
    · exact h.dx.w
    · exact h.dy.w
    · exact h.c.w
    · exact h.r.w
    · exact h.sx.w
    · exact h.sy.w
theorem LPart.ne {x : LPart} : x.ws ≠ [] := by cases x <;> simp [LPart.ws, wnC, wnS, wnL, wnP]
theorem LPart.few {x : LPart} : x.ws.length ≤ 9 := by cases x <;> simp [LPart.ws, wnC, wnS, wnL, wnP]
theorem LPart.len {x : LPart} (h : x.Ok) : (lnW x.ws).length ≤ 400 := by
  have h0 := join_len " " x.ws
  have h1 := sumL_le (k := 41) (zs := x.ws) fun w hw => (LPart.wok h w hw).n
  have hl := x.few
  have := lens.2.2.2.1
  rw [this] at h0
  unfold lnW
  have : 41 * x.ws.length ≤ 41 * 9 := Nat.mul_le_mul_left _ hl
  omega
theorem LPart.split {x : LPart} (h : x.Ok) : Txt.split (lnW x.ws) " " = x.ws := ln_split x.ne (LPart.wok h)
end DL
namespace DL
open PySem PySem.Spec PyProof.Rows L2
/-- a cell that is being read: what stood in its lines so far, and the word of the last one -/
structure DCel where
  n : Str
  S : List Shp
  L : List Lab
  P : List Pla
  w : Str
def keyD (Z : List Rw) : List Key := Z.map fun r => .inr r.n
end DL
namespace DL
open PySem PySem.Spec PyProof.Rows L2
def DCel.rw (c : DCel) : Rw := ⟨c.n, c.S, c.L, c.P⟩
end DL
namespace DL
open PySem PySem.Spec PyProof.Rows L2
structure DCel.Ok (Z : List Rw) (x : DCel) : Prop where
  ok : CelOk x.n x.S x.L x.P
  new : (.inr x.n : Key) ∉ keyD Z
  n : x.n.length ≤ sizeLine
  s1 : x.S.length ≤ 1000
  s2 : x.L.length ≤ 1000
  s3 : x.P.length ≤ 1000
  t2 : ∀ v ∈ x.L, v.n.length ≤ sizeLine
  t3 : ∀ v ∈ x.P, v.n.length ≤ sizeLine
end DL
namespace DL
open PySem PySem.Spec PyProof.Rows L2
structure DSt where
  Z : List Rw
  c : Option DCel
def DSt.all (s : DSt) : List Rw := s.Z ++ (s.c.map DCel.rw).toList
def prtR (r : Rw) : List LPart := .c r.n :: (r.S.map .s ++ (r.L.map .l ++ r.P.map .p))
def prts (rs : List Rw) : List LPart := (rs.map prtR).flatten
def loT : List Str := ["cell", "shape", "label", "place"]
/-- what is asked of the next line -/
def DOk (s : DSt) : LPart → Prop
  | .c n => (∀ x ∈ s.c.toList, x.Ok s.Z) ∧ s.all.length < 60 ∧ (.inr n : Key) ∉ keyD s.all ∧ nameB n = true
  | .s v => ∃ x, s.c = some x ∧ x.w ∈ (["cell", "shape"] : List Str) ∧ x.S.length < 1000 ∧ WnS v
  | .l v => ∃ x, s.c = some x ∧ x.w ∈ (["cell", "shape", "label"] : List Str) ∧ x.L.length < 1000 ∧ WnL v
  | .p v => ∃ x, s.c = some x ∧ x.w ∈ loT ∧ x.P.length < 1000 ∧ WnP v ∧ (.inr v.n : Key) ∈ keyD s.Z
theorem DOk.ok {s : DSt} {p : LPart} (h : DOk s p) : p.Ok := by
  cases p with
  | c n => exact h.2.2.2
  | s v => obtain ⟨_, _, _, _, h⟩ := h; exact h
  | l v => obtain ⟨_, _, _, _, h⟩ := h; exact h
  | p v => obtain ⟨_, _, _, _, h, _⟩ := h; exact h
/-- a library that may be written and read -/
structure TxR (rs : List Rw) : Prop where
  ok : LibOk rs
  cel : ∀ r ∈ rs, CelOk r.n r.S r.L r.P
  pt : ∀ p ∈ prts rs, p.Ok
  sz : ∀ r ∈ rs, r.S.length ≤ 100 ∧ r.L.length ≤ 100 ∧ r.P.length ≤ 100
  few : rs.length ≤ 60
theorem prts_app (a b : List Rw) : prts (a ++ b) = prts a ++ prts b := by unfold prts; simp
theorem TxR.take {rs : List Rw} (t : TxR rs) (k : Nat) : TxR (rs.take k) := by
  refine ⟨fun i b h => ?_, fun b h => t.cel b (List.mem_of_mem_take h), fun p h => t.pt p ?_, fun b h => t.sz b (List.mem_of_mem_take h), by rw [List.length_take]; have := t.few; omega⟩
  · have hi : i < k := by
      have := (List.getElem?_eq_some_iff.mp h).1
      rw [List.length_take] at this; omega
    rw [List.getElem?_take_of_lt hi] at h
    have := t.ok i b h
    rw [List.take_take, Nat.min_eq_left (Nat.le_of_lt hi)]
    exact this
  · have e := List.take_append_drop k rs
    rw [← e, prts_app]
    exact List.mem_append_left _ h
theorem TxR.nd {rs : List Rw} (t : TxR rs) : (nmsL (libL rs)).Nodup := by
  have key : ∀ k, k ≤ rs.length → (nmsL (libL (rs.take k))).Nodup := by
    intro k
    induction k with
    | zero => intro _; simp [libL, nmsL]
    | succ k ih =>
      intro h
      have hk : rs[k]? = some rs[k] := List.getElem?_eq_getElem (by omega)
      have c := t.ok k _ hk
      rw [List.take_add_one, hk]
      simp only [Option.toList]
      rw [libL_snoc, stepL_nms, List.nodup_append]
      refine ⟨ih (by omega), by simp, fun a ha b hb => ?_⟩
      rw [List.mem_singleton] at hb
      subst hb
      exact fun e => c.new (e ▸ ha)
  have := key rs.length (Nat.le_refl _)
  rwa [List.take_length] at this
theorem LPart.pos (p : LPart) : 0 < (lnW p.ws).length := by
  have key : ∀ (w : Str) (r : List Str), 0 < w.length → 0 < (lnW (w :: r)).length := fun w r h => by
    have := join_head " " w r
    unfold lnW; omega
  cases p with
  | c n => exact key "cell" _ (by decide +kernel)
  | s v => exact key "shape" _ (by decide +kernel)
  | l v => exact key "label" _ (by decide +kernel)
  | p v => exact key "place" _ (by decide +kernel)
end DL
namespace DL
open PySem PySem.Spec PyProof.Rows L2
theorem TxR.sm {rs : List Rw} (t : TxR rs) : ∀ r ∈ rs, SmR r := fun r hr => by
  have ok := t.cel r hr
  have mem : ∀ p ∈ prtR r, p ∈ prts rs := fun p hp => by unfold prts; exact List.mem_flatten.mpr ⟨_, List.mem_map.mpr ⟨r, hr, rfl⟩, hp⟩
  refine ⟨nameB_12 ok.n, fun s h => ?_, fun v h => ?_, fun p h => ?_, t.sz r hr⟩
  · have w : WnS s := t.pt (.s s) (mem _ (by unfold prtR; simp [h]))
    have h1 := ok.s s h
    unfold shB at h1
    simp only [Bool.and_eq_true, decide_eq_true_eq] at h1
    exact ⟨lay_len _ h1.1, w.a.sm, w.b.sm, w.c.sm, w.d.sm⟩
  · have w : WnL v := t.pt (.l v) (mem _ (by unfold prtR; simp [h]))
    have h1 := ok.l v h
    unfold labB at h1
    simp only [Bool.and_eq_true, decide_eq_true_eq] at h1
    exact ⟨nameB_12 h1.1, lab_len _ h1.2, w.x.sm, w.y.sm⟩
  · have w : WnP p := t.pt (.p p) (mem _ (by unfold prtR; simp [h]))
    have h1 := ok.p p h
    unfold plaB at h1
    simp only [Bool.and_eq_true, decide_eq_true_eq] at h1
    exact ⟨nameB_12 h1.1, ⟨w.t.sm, w.dx.sm, w.dy.sm⟩, ⟨w.c.sm, w.r.sm⟩, w.sx.sm, w.sy.sm⟩
end DL
namespace DL
open PySem PySem.Spec PyProof.Rows L2
def difB (xs : List Str) : Bool := decide (((ddK (xs.map kS)).length : Int) = (xs.length : Int))
def ptsB (xs : List Str) : Bool := (xs.map nameB).all id && difB xs
def bdvB (v : BDev) : Bool := decide (v.k ∈ (["n", "p"] : List Str)) && ((v.ns.map nameB).all id && (decide (1 ≤ v.w) && decide (1 ≤ v.l)))
def bsuB (u : BUse) : Bool := nameB u.n && (u.N.map nameB).all id
structure BSz (b : Blk) : Prop where
  n : b.n.length ≤ sizeLine
  p : ∀ x ∈ b.P, x.length ≤ sizeLine
  v : ∀ v ∈ b.V, ∀ x ∈ v.ns, x.length ≤ sizeLine
  u : ∀ u ∈ b.U, u.n.length ≤ sizeLine ∧ ∀ x ∈ u.N, x.length ≤ sizeLine
  few : b.P.length ≤ 1000 ∧ b.V.length ≤ 1000 ∧ b.U.length ≤ 1000
  fu : ∀ u ∈ b.U, u.N.length ≤ 1000
theorem difB_ok {xs : List Str} (h : xs.Nodup) : difB xs = true := by
  unfold difB; rw [ddK_nodup _ (kS_nodup h), List.length_map, decide_eq_true rfl]
theorem difB_no {xs : List Str} (h : ¬ xs.Nodup) : difB xs = false := by
  unfold difB
  refine decide_eq_false fun e => ?_
  have := ddK_lt (xs.map kS) fun z => h (by
    have := List.pairwise_map.mp z
    exact this.imp fun hne e => hne (by rw [e]))
  rw [List.length_map] at this; omega
theorem ptsB_ok {xs : List Str} (h : ∀ x ∈ xs, nameB x = true) (d : xs.Nodup) : ptsB xs = true := by unfold ptsB; rw [all_nm h, difB_ok d]; rfl
theorem all_no {α : Type} {p : α → Bool} {xs : List α} {x : α} (h : x ∈ xs) (hp : p x = false) : (xs.map p).all id = false := by
  rw [List.all_map, List.all_eq_false]
  exact ⟨x, h, by show ¬ (p x = true); rw [hp]; decide⟩
theorem bdvB_ok {v : BDev} (ok : v.k ∈ (["n", "p"] : List Str) ∧ (∀ x ∈ v.ns, nameB x = true) ∧ 1 ≤ v.w ∧ 1 ≤ v.l) : bdvB v = true := by
  unfold bdvB; rw [all_nm ok.2.1, decide_eq_true ok.1, decide_eq_true ok.2.2.1, decide_eq_true ok.2.2.2]; rfl
theorem bsuB_ok {u : BUse} (ok : nameB u.n = true ∧ ∀ x ∈ u.N, nameB x = true) : bsuB u = true := by unfold bsuB; rw [all_nm ok.2, ok.1]; rfl
theorem BkOk.sz {b : Blk} (ok : BkOk b) : BSz b := ⟨nm_size ok.n, fun x h => nm_size (ok.p x h), fun v hv x hx => nm_size ((ok.v v hv).2.1 x hx), fun u hu => ⟨nm_size (ok.u u hu).1, fun x hx => nm_size ((ok.u u hu).2 x hx)⟩,
  ⟨by have := ok.few; omega, by have := ok.few; omega, by have := ok.few; omega⟩, fun u hu => by have := ok.fu u hu; omega⟩
theorem ptsB_nm {xs : List Str} {x : Str} (h : x ∈ xs) (hx : nameB x = false) : ptsB xs = false := by unfold ptsB; rw [all_no h hx]; rfl
theorem ptsB_dup {xs : List Str} (h : ¬ xs.Nodup) : ptsB xs = false := by unfold ptsB; rw [difB_no h]; simp
theorem bsuB_n {n : Str} {xs : List Str} (hn : nameB n = false) : bsuB ⟨n, xs⟩ = false := by unfold bsuB; rw [show (BUse.mk n xs).n = n from rfl, hn]; rfl
theorem bdvB_ns {v : BDev} {x : Str} (h : x ∈ v.ns) (hx : nameB x = false) : bdvB v = false := by unfold bdvB; rw [all_no h hx]; simp
theorem l1 : ("a" : Str).length ≤ 1000 ∧ ("b" : Str).length ≤ 1000 ∧ ("c" : Str).length ≤ 1000 ∧ ("q" : Str).length ≤ 1000 ∧ ("zz" : Str).length ≤ 1000 := by decide +kernel
theorem BSz.nm {b : Blk} (h : BSz b) {n : Str} (hn : n.length ≤ 1000) : BSz ⟨n, b.P, b.V, b.U⟩ := ⟨by rw [sizeLine_eq]; show n.length ≤ _; omega, h.p, h.v, h.u, h.few, h.fu⟩
theorem BSz.pt {b : Blk} (h : BSz b) {P : List Str} (hp : ∀ x ∈ P, x.length ≤ sizeLine) (hl : P.length ≤ 1000) : BSz ⟨b.n, P, b.V, b.U⟩ := ⟨h.n, hp, h.v, h.u, ⟨hl, h.few.2.1, h.few.2.2⟩, h.fu⟩
theorem BSz.dv {b : Blk} (h : BSz b) {V : List BDev} (hv : ∀ v ∈ V, ∀ x ∈ v.ns, x.length ≤ sizeLine) (hl : V.length ≤ 1000) : BSz ⟨b.n, b.P, V, b.U⟩ := ⟨h.n, h.p, hv, h.u, ⟨h.few.1, hl, h.few.2.2⟩, h.fu⟩
end DL
namespace DL
open PySem PySem.Spec PyProof.Rows L2
section
variable {X : Cx} {ρ ρx : En} {Θ : Err} {e : Expr} {st : Stmt} {rest sa sb : List Stmt} {pos : Pos}
theorem xg_ifP {c : Expr} {Ψ : Bool → En → Prop} (hc : TP X ρ c Ψ) (h1 : ∀ ρ', Ψ true ρ' → XG X sa ρ' Θ ρx) (h2 : ∀ ρ', ¬ Ψ false ρ') : XG1 X (.If c sa sb pos) ρ Θ ρx := fun B0 B σ H0 H Dn W tk j kk => by
  refine ⟨_, ps_if pt_star pss_star pss_star, hc B0 B σ H0 H _ j fun b ρ' H0' H' w j1 => ?_⟩
  cases b with
  | true => exact iteT (h1 ρ' w B0 B σ H0' H' Dn W tk j1 kk)
  | false => exact (h2 ρ' w).elim
theorem xg_forX {tg iter : Expr} {body : List Stmt} {α U γ : Type} {zs : List D} (xs : List α) (enc : α → D) (hc : X.calm = true) (hi : ID X ρ tg iter zs) (he : zs = xs.map enc) (G : Nat → γ → U → List (Nat × Sl)) (V : En → U) (P : Nat → γ → Prop) (g0 : γ) (n : Nat) {y : α} (hn : xs[n]? = some y) (hρ : upds ρ (G 0 g0 (V ρ)) = ρ) (h0 : P 0 g0)
    (hs : ∀ i x g u, i < n → xs[i]? = some x → P i g → ∃ is ρ'', DG X is tg (enc x) (upds ρ (G i g u)) ρ'' ∧ WSs X body ρ'' (fun o => match o with | .nx r => ∃ g', upds ρ (G (i + 1) g' (V r)) = r ∧ P (i + 1) g' | .ct r => ∃ g', upds ρ (G (i + 1) g' (V r)) = r ∧ P (i + 1) g' | _ => False))
    (hx : ∀ g u, P n g → ∃ is ρ'', DG X is tg (enc y) (upds ρ (G n g u)) ρ'' ∧ XG X body ρ'' Θ ρx) (hp : PassesOwn (model X.prog X.w) X.A X.env X.xe) (hf : ∀ x, foldedSetIterable iter X.env x = pure x := by intro _; rfl) : XG1 X (.For tg iter body [] pos) ρ Θ ρx := by
  refine xg_for xs enc hc hi he (fun i r => ∃ g, (∃ u, upds ρ (G i g u) = r) ∧ P i g) ⟨g0, ⟨_, hρ⟩, h0⟩ n hn (fun i x r hin hxi hI => ?_) (fun r hI => ?_) hp hf
  · obtain ⟨g, ⟨u, rfl⟩, p⟩ := hI
    obtain ⟨is, r2, h1, h2⟩ := hs i x g u hin hxi p
    refine ⟨is, r2, h1, ws_mono h2 fun o ho => ?_⟩
    cases o with
    | nx r => obtain ⟨g', e1, e2⟩ := ho; exact ⟨g', ⟨_, e1⟩, e2⟩
    | ct r => obtain ⟨g', e1, e2⟩ := ho; exact ⟨g', ⟨_, e1⟩, e2⟩
    | bk r => exact ho
    | rt v => exact ho
    | ro c => exact ho
    | rc v cs => exact ho
  · obtain ⟨g, ⟨u, rfl⟩, p⟩ := hI
    exact hx g u p
end
end DL
namespace DL
open PySem PySem.Spec PyProof.Rows L2
structure WsM (ws : List Str) : Prop where
  ne : ws ≠ []
  few : ws.length ≤ 12
  ok : ∀ w ∈ ws, WOk w
theorem WsM.len {ws : List Str} (h : WsM ws) : (lnW ws).length ≤ 504 := ln_len12 h.ok h.few
theorem WsM.sz {ws : List Str} (h : WsM ws) : ∀ w ∈ ws, w.length ≤ sizeLine := fun w hw => by have := (h.ok w hw).n; rw [sizeLine_eq]; omega
theorem txM_split {W : List (List Str)} (hne : W ≠ []) (h : ∀ ws ∈ W, WsM ws) : Txt.split (txW W) "\n" = W.map lnW := by
  unfold txW
  rw [← TL.join_eq]
  refine TL.split_join sep_tl.2 (by decide +kernel) (by simpa using hne) fun p hp => ?_
  obtain ⟨ws, hw, rfl⟩ := List.mem_map.mp hp
  exact ln_free (h ws hw).ok
theorem txM_room {W : List (List Str)} (h : ∀ ws ∈ W, WsM ws) (hl : W.length ≤ 1300) : sumL (W.map lnW) + (W.map lnW).length * ("\n" : Str).length ≤ 700000 := by
  have h1 := sumL_le (k := 504) (zs := W.map lnW) fun z hz => by
    obtain ⟨ws, hw, rfl⟩ := List.mem_map.mp hz
    exact (h ws hw).len
  rw [List.length_map] at h1 ⊢
  have := lens.2.2.2.2.2
  rw [this]
  have : 504 * W.length ≤ 504 * 1300 := Nat.mul_le_mul_left _ hl
  omega
theorem txM_len {W : List (List Str)} (h : ∀ ws ∈ W, WsM ws) (hl : W.length ≤ 1300) : (txW W).length ≤ 700000 := Nat.le_trans (join_len _ _) (txM_room h hl)
theorem txM_ne {W : List (List Str)} (h : 2 ≤ W.length) : txW W ≠ "" := fun e => by
  match W, h with
  | a :: b :: r, _ =>
    have h1 : txW (a :: b :: r) = lnW a ++ ("\n" : Str) ++ Str.join "\n" ((b :: r).map lnW) := rfl
    have h2 := congrArg Str.length (h1.symm.trans e)
    rw [app_len, app_len, lens.2.2.2.2.2, show ("" : Str).length = 0 by decide +kernel] at h2
    omega
theorem txM_if {W : List (List Str)} (h : ∀ ws ∈ W, WsM ws) (h2 : 2 ≤ W.length) : (if (!decide (txW W = ("" : Str))) = true then D.lst ((Txt.split (txW W) "\n").map .str) else D.lst []) = D.lst ((W.map lnW).map .str) := by
  rw [decide_eq_false (txM_ne h2), txM_split (fun e => by rw [e] at h2; simp at h2) h]; rfl
theorem txM_enum (W : List (List Str)) : enumK 1 ((W.map lnW).map .str) = (List.range W.length).map fun (i : Nat) => D.tup [.int (((1 : Nat) : Int) + (i : Int)), .str (lnW (W.getD i []))] := by
  refine List.ext_getElem? fun i => ?_
  by_cases h : i < W.length
  · unfold enumK
    rw [List.getElem?_zipWith, List.length_map, List.length_map, List.getElem?_range h, List.getElem?_map, List.getElem?_map, List.getElem?_map, List.getElem?_range h, List.getElem?_eq_getElem h]
    have e : W.getD i [] = W[i] := by rw [List.getD_eq_getElem?_getD, List.getElem?_eq_getElem h]; rfl
    show some (D.tup [D.int (((1 : Nat) : Int) + (i : Int)), .str (lnW (W[i]))]) = some (D.tup [D.int (((1 : Nat) : Int) + (i : Int)), .str (lnW (W.getD i []))])
    rw [e]
  · rw [List.getElem?_eq_none (by rw [enumK_len, List.length_map, List.length_map]; omega), List.getElem?_eq_none (by rw [List.length_map, List.length_range]; omega)]
structure CurOk (s : BLs) : Prop where
  ok : ∀ c ∈ s.c.toList, BkOk c ∧ c.n ∉ nmsB (libB s.D)
  few : s.D.length ≤ 60
def nwB (s : BLs) (n : Str) : Bool := !hasK (keyB (libB (s.D ++ s.c.toList))) (.inr n) && decide (((keyB (libB (s.D ++ s.c.toList))).length : Int) < 60)
inductive TkBad (s : BLs) : List Str → Prop where
  | blk (n : Str) (P : List Str) (h : nwB s n = false ∨ nameB n = false ∨ ptsB P = false) : TkBad s ("block" :: n :: P)
  | dev (k g e o a b : Str) (q : Option (List Int)) (r : RdW [a, b] q) (h : s.c = none ∨ usO s.c ≠ [] ∨ q = none ∨ ∃ w l, q = some [w, l] ∧ bdvB ⟨k, g, e, o, w, l⟩ = false) : TkBad s ["device", k, g, e, o, a, b]
  | use (n : Str) (N : List Str) (h : n ∉ nmsB (libB s.D) ∨ (N.length : Int) ≠ cntB ptB (libB s.D) n ∨ bsuB ⟨n, N⟩ = false) : TkBad s ("use" :: n :: N)
  | no (w : Str) (ws : List Str) (h1 : w ≠ "block" ∨ ws = []) (h2 : w ≠ "device" ∨ ws.length ≠ 6) (h3 : w ≠ "use" ∨ ws = []) : TkBad s (w :: ws)
theorem hold_of {R : List SRow} {n : Str} (h : (!hasK (keyB R) (.inr n)) = false) : n ∈ nmsB R := has_keyB.mp (by simpa using h)
theorem rdw2 {a b : Str} {q : Option (List Int)} (r : RdW [a, b] q) : q = none ∨ ∃ w l, q = some [w, l] := by
  cases r' : q with
  | none => exact .inl rfl
  | some ns =>
    subst r'
    right
    generalize e : ([a, b] : List Str) = ws at r
    cases r with
    | ok ns h =>
      match ns, e with
      | [w, l], _ => exact ⟨w, l, rfl⟩
/-- what stands in a text with a wrong line -/
def tlS (ls : List Ln) (ww : List Str) (rr : List (List Str)) : List (List Str) := ls.map Ln.ws ++ ww :: rr
structure XTb (ls : List Ln) (ww : List Str) (rr : List (List Str)) : Prop where
  ok : ∀ (i : Nat) l, ls[i]? = some l → LOk (runL (ls.take i)) l
  cur : CurOk (runL ls)
  bad : TkBad (runL ls) ww
  w : WsM ww
  r : ∀ ws ∈ rr, WsM ws
  l : ls.length + rr.length ≤ 1290
  two : 1 ≤ ls.length + rr.length
theorem LOk.wm {s : BLs} {l : Ln} (h : LOk s l) : WsM l.ws := ⟨h.w.ok.1, h.w.ok.2.1, h.w.ok.2.2⟩
theorem XTb.all {ls : List Ln} {ww : List Str} {rr : List (List Str)} (x : XTb ls ww rr) : ∀ ws ∈ tlS ls ww rr, WsM ws := fun ws h => by
  unfold tlS at h
  rcases List.mem_append.mp h with h | h
  · obtain ⟨l, hl, rfl⟩ := List.mem_map.mp h
    obtain ⟨i, hi⟩ := List.getElem?_of_mem hl
    exact (x.ok i l hi).wm
  · rcases List.mem_cons.mp h with rfl | h
    · exact x.w
    · exact x.r ws h
theorem tlS_len (ls : List Ln) (ww : List Str) (rr : List (List Str)) : (tlS ls ww rr).length = ls.length + 1 + rr.length := by unfold tlS; simp; omega
theorem XTb.few {ls : List Ln} {ww : List Str} {rr : List (List Str)} (x : XTb ls ww rr) : (tlS ls ww rr).length ≤ 1300 ∧ 2 ≤ (tlS ls ww rr).length := by
  rw [tlS_len]; have := x.l; have := x.two; omega
theorem tlS_at {ls : List Ln} {ww : List Str} {rr : List (List Str)} {i : Nat} {l : Ln} (h : ls[i]? = some l) : (tlS ls ww rr).getD i [] = l.ws := by
  unfold tlS
  rw [List.getD_eq_getElem?_getD, List.getElem?_append_left (by rw [List.length_map]; exact (List.getElem?_eq_some_iff.mp h).1), List.getElem?_map, h]; rfl
theorem tlS_end (ls : List Ln) (ww : List Str) (rr : List (List Str)) : (tlS ls ww rr).getD ls.length [] = ww := by
  unfold tlS
  rw [List.getD_eq_getElem?_getD, List.getElem?_append_right (by simp)]; simp
inductive PXs : List (List Str) → Int → Prop where
  | mk (ls : List Ln) (ww : List Str) (rr : List (List Str)) (x : XTb ls ww rr) : PXs (tlS ls ww rr) ((1 : Nat) + (ls.length : Int))
inductive LXs : List Str → Int → Prop where
  | ok (bs : List Blk) (t : TxS bs) : LXs (((lnsT bs).map Ln.ws).map lnW) 0
  | bad (W : List (List Str)) (k : Int) (h : PXs W k) : LXs (W.map lnW) k
theorem PXs.ok {W : List (List Str)} {k : Int} (h : PXs W k) : (∀ ws ∈ W, WsM ws) ∧ W.length ≤ 1300 ∧ 2 ≤ W.length ∧ 0 ≤ k ∧ k ≤ 1300 := by
  obtain ⟨ls, ww, rr, x⟩ := h
  exact ⟨x.all, x.few.1, x.few.2, by omega, by have := x.l; omega⟩
theorem runL_full (bs : List Blk) (b : Blk) : runL (lnsT (bs ++ [b])) = ⟨bs, some b⟩ := by
  rw [lnsT_snoc]
  unfold runL
  rw [List.foldl_append]
  unfold lnsB
  rw [run_part]
  have h := run_full bs
  unfold runL at h
  rw [h]
theorem cur_of {bs : List Blk} {b : Blk} (t : TxS (bs ++ [b])) : CurOk ⟨bs, some b⟩ := by
  have h := run_cur t
  rw [runL_full] at h
  have := t.few
  rw [List.length_append] at this
  exact ⟨h, by show bs.length ≤ 60; omega⟩
/-- a cut text of blocks is the text of other blocks -/
theorem cut_ex : ∀ (bs : List Blk), TxS bs → ∀ k : Nat, 1 ≤ k → k ≤ (lnsT bs).length → ∃ ds d, TxS (ds ++ [d]) ∧ (lnsT (ds ++ [d])).map Ln.ws = ((lnsT bs).take k).map Ln.ws ∧ ∀ x ∈ ds ++ [d], ∃ y ∈ bs, x.n = y.n := by
  intro bs
  refine snoc_ind (P := fun bs => TxS bs → ∀ k : Nat, 1 ≤ k → k ≤ (lnsT bs).length → ∃ ds d, TxS (ds ++ [d]) ∧ (lnsT (ds ++ [d])).map Ln.ws = ((lnsT bs).take k).map Ln.ws ∧ ∀ x ∈ ds ++ [d], ∃ y ∈ bs, x.n = y.n) (fun _ k h1 h2 => by simp [lnsT] at h2; omega) (fun bs b ih t k h1 h2 => ?_) bs
  have tp : TxS bs := by have := t.take bs.length; rwa [List.take_left] at this
  have hbm : b ∈ bs ++ [b] := by simp
  have hbi : (bs ++ [b])[bs.length]? = some b := by rw [List.getElem?_append_right (Nat.le_refl _), Nat.sub_self]; rfl
  have hc := t.ok bs.length b hbi
  rw [List.take_left] at hc
  have okb := t.bk b hbm
  have hw := t.w b hbm
  have hfew := t.few
  rw [lnsT_snoc] at h2 ⊢
  by_cases hi : k ≤ (lnsT bs).length
  · obtain ⟨ds, d, a1, a2, a3⟩ := ih tp k h1 hi
    refine ⟨ds, d, a1, ?_, fun x hx => ?_⟩
    · rw [List.take_append_of_le_length hi]; exact a2
    · obtain ⟨y, hy, e⟩ := a3 x hx
      exact ⟨y, List.mem_append_left _ hy, e⟩
  · obtain ⟨j, rfl⟩ : ∃ j, k = (lnsT bs).length + (j + 1) := ⟨k - (lnsT bs).length - 1, by omega⟩
    have okd : BkOk ⟨b.n, b.P, b.V.take j, b.U.take (j - b.V.length)⟩ := by
      refine ⟨okb.n, okb.p, okb.d, fun v hv => okb.v v (List.mem_of_mem_take hv), fun u hu => okb.u u (List.mem_of_mem_take hu), ⟨okb.few.1, ?_, ?_⟩, fun u hu => okb.fu u (List.mem_of_mem_take hu)⟩
      · show (b.V.take j).length ≤ 10; rw [List.length_take]; have := okb.few; omega
      · show (b.U.take _).length ≤ 10; rw [List.length_take]; have := okb.few; omega
    refine ⟨bs, ⟨b.n, b.P, b.V.take j, b.U.take (j - b.V.length)⟩, ⟨schOk_snoc tp.ok ⟨hc.1.new, fun u hu => hc.1.old u (List.mem_of_mem_take hu), fun u hu => hc.1.pt u (List.mem_of_mem_take hu)⟩ okd, fun x hx => ?_, fun x hx v hv => ?_, by rw [List.length_append] at hfew ⊢; exact hfew⟩, ?_, fun x hx => ?_⟩
    · rcases List.mem_append.mp hx with hx | hx
      · exact tp.bk x hx
      · rw [List.mem_singleton.mp hx]; exact okd
    · rcases List.mem_append.mp hx with hx | hx
      · exact tp.w x hx v hv
      · rw [List.mem_singleton.mp hx] at hv; exact hw v (List.mem_of_mem_take hv)
    · have e0 : (lnsT bs ++ lnsB b).take ((lnsT bs).length + (j + 1)) = lnsT bs ++ (lnsB b).take (j + 1) := by
        rw [List.take_append, List.take_of_length_le (Nat.le_add_right _ _), Nat.add_sub_cancel_left]
      rw [lnsT_snoc, e0, List.map_append, List.map_append]
      congr 1
      unfold lnsB
      rw [List.take_succ_cons, List.map_cons, List.map_cons, List.take_append, List.length_map, List.map_take, List.map_take]
      rfl
    · rcases List.mem_append.mp hx with hx | hx
      · exact ⟨x, List.mem_append_left _ hx, rfl⟩
      · rw [List.mem_singleton.mp hx]; exact ⟨b, hbm, rfl⟩
theorem cutl {bs ds : List Blk} {d : Blk} {k : Nat} (e : (lnsT (ds ++ [d])).map Ln.ws = ((lnsT bs).take k).map Ln.ws) (h2 : k ≤ (lnsT bs).length) : (lnsT (ds ++ [d])).length = k := by
  have := congrArg List.length e
  rw [List.length_map, List.length_map, List.length_take] at this; omega
/-- a line behind blocks -/
theorem px_at {bs : List Blk} {b : Blk} (t : TxS (bs ++ [b])) {ww : List Str} {rr : List (List Str)} (hw : WsM ww) (hb : TkBad ⟨bs, some b⟩ ww) (hr : ∀ ws ∈ rr, WsM ws) (hl : rr.length ≤ 30) : PXs ((lnsT (bs ++ [b])).map Ln.ws ++ ww :: rr) ((1 : Nat) + ((lnsT (bs ++ [b])).length : Int)) := by
  refine .mk (lnsT (bs ++ [b])) ww rr ⟨lines_ok _ t, ?_, ?_, hw, hr, by have := lnsT_len t; omega, ?_⟩
  · rw [runL_full]; exact cur_of t
  · rw [runL_full]; exact hb
  · rw [lnsT_snoc, List.length_append]; unfold lnsB; rw [List.length_cons]; omega
theorem px_cut2 {bs : List Blk} (t : TxS bs) (hl : (lnsT bs).length ≤ 30) {k : Nat} (h1 : 1 ≤ k) (h2 : k ≤ (lnsT bs).length) {ds : List Blk} {d : Blk} (td : TxS (ds ++ [d])) (e : (lnsT (ds ++ [d])).map Ln.ws = ((lnsT bs).take k).map Ln.ws) {ww : List Str} (hw : WsM ww) (hb : TkBad ⟨ds, some d⟩ ww) :
    PXs (((lnsT bs).map Ln.ws).take k ++ [ww] ++ ((lnsT bs).map Ln.ws).drop k) ((k : Int) + 1) := by
  have h := px_at td hw hb (rr := ((lnsT bs).map Ln.ws).drop k) (fun ws h => by
    obtain ⟨l, hl, rfl⟩ := List.mem_map.mp (List.mem_of_mem_drop h)
    exact ⟨(t.ln hl).ok.1, (t.ln hl).ok.2.1, (t.ln hl).ok.2.2⟩) (by rw [List.length_drop, List.length_map]; omega)
  rw [e, cutl e h2] at h
  have e2 : ((1 : Nat) : Int) + (k : Int) = (k : Int) + 1 := by omega
  rw [e2, List.map_take] at h
  rw [List.append_assoc]
  exact h
theorem px_fst {bs : List Blk} (t : TxS bs) (h0 : 1 ≤ (lnsT bs).length) (hl : (lnsT bs).length ≤ 30) {ww : List Str} (hw : WsM ww) (hb : TkBad ⟨[], none⟩ ww) : PXs ([ww] ++ (lnsT bs).map Ln.ws) 1 := by
  have h := PXs.mk [] ww ((lnsT bs).map Ln.ws) ⟨fun i l h => by simp at h, ⟨fun c h => (by cases h), by show 0 ≤ 60; omega⟩, hb, hw, fun ws h => by
    obtain ⟨l, hl, rfl⟩ := List.mem_map.mp h
    exact ⟨(t.ln hl).ok.1, (t.ln hl).ok.2.1, (t.ln hl).ok.2.2⟩, by rw [List.length_map]; show 0 + _ ≤ _; omega, by rw [List.length_map]; show 1 ≤ 0 + _; omega⟩
  exact h
theorem rd1 {a b : Str} {i j : Int} (ha : stI i = a) (hb : stI j = b) (hi : Rz i) (hj : Rz j) : RdW [a, b] (some [i, j]) := by
  have := RdW.ok [i, j] (fun k hk => by rcases List.mem_cons.mp hk with rfl | hk; exact hi; rw [List.mem_singleton.mp hk]; exact hj)
  rwa [show ([i, j] : List Int).map stI = [a, b] by rw [← ha, ← hb]; rfl] at this
theorem rz0 : Rz 0 ∧ Rz 1 := ⟨⟨by decide⟩, ⟨by decide⟩⟩
theorem rd11 : RdW ["1", "1"] (some [1, 1]) := rd1 stI_lit.2.1 stI_lit.2.1 rz0.2 rz0.2
theorem rd01 : RdW ["0", "1"] (some [0, 1]) := rd1 stI_lit.1 stI_lit.2.1 rz0.1 rz0.2
theorem rd10 : RdW ["1", "0"] (some [1, 0]) := rd1 stI_lit.2.1 stI_lit.1 rz0.2 rz0.1
def wsW (m : Int) (n : Str) : List (List Str) :=
  [[""], ["block"], ["blocks", "zz"], ["", "block", "zz"], ["block", "zz", ""], ["block", "", "zz"], ["block", n], ["block", badAt m], ["block", "zz", "a", "a"], ["block", "zz", badAt m, "a"],
   ["device", "n", "a", "b", "c", "1"], ["device", "n", "a", "b", "c", "1", "1", "1"], ["device", "q", "a", "b", "c", "1", "1"], ["device", "n", "a", "b", "c", "0", "1"], ["device", "n", "a", "b", "c", "1", "0"], ["device", "n", "a", "b", "c", badIw m, "1"],
   ["device", "n", "a", "b", "c", "1", badIw m], ["device", "n", badAt m, "b", "c", "1", "1"], ["device", "n", "a", "b", badAt m, "1", "1"], ["device", "n", "a", "", "b", "c", "1", "1"], ["Device", "n", "a", "b", "c", "1", "1"],
   ["use"], ["use", "zzzz"], ["use", "zzzz", "a"], ["use", n], ["use", n, "a"], ["use", n, "a", "b", "c", "y"], ["use", badAt m], ["device"]]
def wsS (m : Int) (n : Str) : List Str :=
  ["", "block", "blocks zz", " block zz", "block zz ", "block  zz", ("block " : Str) ++ n, ("block " : Str) ++ badAt m, "block zz a a", ("block zz " : Str) ++ badAt m ++ (" a" : Str),
   "device n a b c 1", "device n a b c 1 1 1", "device q a b c 1 1", "device n a b c 0 1", "device n a b c 1 0", ("device n a b c " : Str) ++ badIw m ++ (" 1" : Str),
   ("device n a b c 1 " : Str) ++ badIw m, ("device n " : Str) ++ badAt m ++ (" b c 1 1" : Str), ("device n a b " : Str) ++ badAt m ++ (" 1 1" : Str), "device n a  b c 1 1", "Device n a b c 1 1",
   "use", "use zzzz", "use zzzz a", ("use " : Str) ++ n, ("use " : Str) ++ n ++ (" a" : Str), ("use " : Str) ++ n ++ (" a b c y" : Str), ("use " : Str) ++ badAt m, "device"]
theorem ws_str (m : Int) (n : Str) : wsS m n = (wsW m n).map lnW := by
  have e1 : ∀ w : Str, ("block " : Str) ++ w = lnW ["block", w] := fun w => ln_sfx (a := ["block"]) (by simp) (by decide +kernel)
  have e2 : ∀ w : Str, ("use " : Str) ++ w = lnW ["use", w] := fun w => ln_sfx (a := ["use"]) (by simp) (by decide +kernel)
  have e3 : ∀ w : Str, ("block zz " : Str) ++ w ++ (" a" : Str) = lnW ["block", "zz", w, "a"] := fun w => ln_inf (a := ["block", "zz"]) (b := ["a"]) (by simp) (by simp) (by decide +kernel) (by decide +kernel)
  have e4 : ∀ w : Str, ("device n a b c " : Str) ++ w ++ (" 1" : Str) = lnW ["device", "n", "a", "b", "c", w, "1"] := fun w => ln_inf (a := ["device", "n", "a", "b", "c"]) (b := ["1"]) (by simp) (by simp) (by decide +kernel) (by decide +kernel)
  have e5 : ∀ w : Str, ("device n a b c 1 " : Str) ++ w = lnW ["device", "n", "a", "b", "c", "1", w] := fun w => ln_sfx (a := ["device", "n", "a", "b", "c", "1"]) (by simp) (by decide +kernel)
  have e6 : ∀ w : Str, ("device n " : Str) ++ w ++ (" b c 1 1" : Str) = lnW ["device", "n", w, "b", "c", "1", "1"] := fun w => ln_inf (a := ["device", "n"]) (b := ["b", "c", "1", "1"]) (by simp) (by simp) (by decide +kernel) (by decide +kernel)
  have e7 : ∀ w : Str, ("device n a b " : Str) ++ w ++ (" 1 1" : Str) = lnW ["device", "n", "a", "b", w, "1", "1"] := fun w => ln_inf (a := ["device", "n", "a", "b"]) (b := ["1", "1"]) (by simp) (by simp) (by decide +kernel) (by decide +kernel)
  have e8 : ∀ w : Str, ("use " : Str) ++ w ++ (" a" : Str) = lnW ["use", w, "a"] := fun w => ln_inf (a := ["use"]) (b := ["a"]) (by simp) (by simp) (by decide +kernel) (by decide +kernel)
  have e9 : ∀ w : Str, ("use " : Str) ++ w ++ (" a b c y" : Str) = lnW ["use", w, "a", "b", "c", "y"] := fun w => ln_inf (a := ["use"]) (b := ["a", "b", "c", "y"]) (by simp) (by simp) (by decide +kernel) (by decide +kernel)
  unfold wsS wsW
  rw [e1, e1, e3, e4, e5, e6, e7, e8, e9, e2, e2]
  simp only [List.map_cons, List.map_nil]
  have f : ("" : Str) = lnW [""] ∧ ("block" : Str) = lnW ["block"] ∧ ("blocks zz" : Str) = lnW ["blocks", "zz"] ∧ (" block zz" : Str) = lnW ["", "block", "zz"] ∧ ("block zz " : Str) = lnW ["block", "zz", ""] ∧ ("block  zz" : Str) = lnW ["block", "", "zz"] ∧ ("block zz a a" : Str) = lnW ["block", "zz", "a", "a"] := by decide +kernel
  have g : ("device n a b c 1" : Str) = lnW ["device", "n", "a", "b", "c", "1"] ∧ ("device n a b c 1 1 1" : Str) = lnW ["device", "n", "a", "b", "c", "1", "1", "1"] ∧ ("device q a b c 1 1" : Str) = lnW ["device", "q", "a", "b", "c", "1", "1"] ∧ ("device n a b c 0 1" : Str) = lnW ["device", "n", "a", "b", "c", "0", "1"] ∧ ("device n a b c 1 0" : Str) = lnW ["device", "n", "a", "b", "c", "1", "0"] ∧ ("device n a  b c 1 1" : Str) = lnW ["device", "n", "a", "", "b", "c", "1", "1"] ∧ ("Device n a b c 1 1" : Str) = lnW ["Device", "n", "a", "b", "c", "1", "1"] := by decide +kernel
  have k : ("use" : Str) = lnW ["use"] ∧ ("use zzzz" : Str) = lnW ["use", "zzzz"] ∧ ("use zzzz a" : Str) = lnW ["use", "zzzz", "a"] ∧ ("device" : Str) = lnW ["device"] := by decide +kernel
  obtain ⟨f0, f1, f2, f3, f4, f5, f6⟩ := f
  obtain ⟨g0, g1, g2, g3, g4, g5, g6⟩ := g
  obtain ⟨k0, k1, k2, k3⟩ := k
  rw [← f0, ← f1, ← f2, ← f3, ← f4, ← f5, ← f6, ← g0, ← g1, ← g2, ← g3, ← g4, ← g5, ← g6, ← k0, ← k1, ← k2, ← k3]
theorem wm_of {ws : List Str} (h1 : ws ≠ []) (h2 : ws.length ≤ 12) (h : ∀ w ∈ ws, WOk w) : WsM ws := ⟨h1, h2, h⟩
theorem lits83 : (WOk "" ∧ WOk "block" ∧ WOk "blocks" ∧ WOk "zz" ∧ WOk "a" ∧ WOk "b" ∧ WOk "c" ∧ WOk "y" ∧ WOk "1") ∧ (WOk "0" ∧ WOk "q" ∧ WOk "n" ∧ WOk "device" ∧ WOk "Device" ∧ WOk "use" ∧ WOk "zzzz" ∧ WOk "m60") :=
  ⟨⟨wok_of (by decide +kernel), wok_of (by decide +kernel), wok_of (by decide +kernel), wok_of (by decide +kernel), wok_of (by decide +kernel), wok_of (by decide +kernel), wok_of (by decide +kernel), wok_of (by decide +kernel), wok_of (by decide +kernel)⟩,
   ⟨wok_of (by decide +kernel), wok_of (by decide +kernel), wok_of (by decide +kernel), wok_of (by decide +kernel), wok_of (by decide +kernel), wok_of (by decide +kernel), wok_of (by decide +kernel), wok_of (by decide +kernel)⟩⟩
theorem nms_D {bs : List Blk} {n : Str} : n ∈ nmsB (libB bs) ↔ n ∈ bs.map (·.n) := by rw [libB_nms]
theorem nw_old {bs : List Blk} {b : Blk} {n : Str} (h : n ∈ (bs ++ [b]).map (·.n)) : nwB ⟨bs, some b⟩ n = false := by
  unfold nwB
  show (!hasK (keyB (libB (bs ++ [b]))) _ && _) = false
  rw [has_keyB.mpr (nms_D.mpr h)]; rfl
theorem dif_aa : ¬ (["a", "a"] : List Str).Nodup := by simp
theorem nm_emp : nameB "" = false := by decide +kernel
theorem bdv_lits : bdvB ⟨"q", "a", "b", "c", 1, 1⟩ = false ∧ bdvB ⟨"n", "a", "b", "c", 0, 1⟩ = false ∧ bdvB ⟨"n", "a", "b", "c", 1, 0⟩ = false := by decide +kernel
theorem ws_bad {bs : List Blk} {b : Blk} {m : Int} (hn : b.n ∉ bs.map (·.n)) (hz : ("zzzz" : Str) ∉ bs.map (·.n)) (hk : nameB b.n = true) : ∀ ws ∈ wsW m b.n, TkBad ⟨bs, some b⟩ ws ∧ WsM ws := fun ws h => by
  obtain ⟨⟨a0, a1, a2, a3, a4, a5, a6, a7, a8⟩, b0, b1, b2, b3, b4, b5, b6, _⟩ := lits83
  have wn : WOk b.n := name_w hk
  have wb := badAt_w m
  have wi := (badI_no m).2
  have nb := (badAt_no m).1
  have W : ∀ {ws : List Str}, ws ≠ [] → ws.length ≤ 12 → (∀ w ∈ ws, WOk w) → WsM ws := wm_of
  have hn' : b.n ∉ nmsB (libB bs) := fun h => hn (nms_D.mp h)
  have hz' : ("zzzz" : Str) ∉ nmsB (libB bs) := fun h => hz (nms_D.mp h)
  have ne : ∀ a b : Str, decide (a = b) = false → a ≠ b := fun a b h => of_decide_eq_false h
  obtain ⟨l1, l2, l3⟩ := bdv_lits
  unfold wsW at h
  simp only [List.mem_cons, List.not_mem_nil, or_false] at h
  rcases h with rfl | rfl | rfl | rfl | rfl | rfl | rfl | rfl | rfl | rfl | rfl | rfl | rfl | rfl | rfl | rfl | rfl | rfl | rfl | rfl | rfl | rfl | rfl | rfl | rfl | rfl | rfl | rfl | rfl
  · exact ⟨.no _ _ (.inr rfl) (.inr (by decide)) (.inr rfl), W (by simp) (by simp) (wc a0 wz)⟩
  · exact ⟨.no _ _ (.inr rfl) (.inr (by decide)) (.inr rfl), W (by simp) (by simp) (wc a1 wz)⟩
  · exact ⟨.no _ _ (.inl (ne _ _ (by decide +kernel))) (.inr (by decide)) (.inl (ne _ _ (by decide +kernel))), W (by simp) (by simp) (wc a2 (wc a3 wz))⟩
  · exact ⟨.no _ _ (.inl (ne _ _ (by decide +kernel))) (.inr (by decide)) (.inl (ne _ _ (by decide +kernel))), W (by simp) (by simp) (wc a0 (wc a1 (wc a3 wz)))⟩
  · exact ⟨.blk _ _ (.inr (.inr (ptsB_nm (x := "") (by simp) nm_emp))), W (by simp) (by simp) (wc a1 (wc a3 (wc a0 wz)))⟩
  · exact ⟨.blk _ _ (.inr (.inl nm_emp)), W (by simp) (by simp) (wc a1 (wc a0 (wc a3 wz)))⟩
  · exact ⟨.blk _ _ (.inl (nw_old (by simp))), W (by simp) (by simp) (wc a1 (wc wn wz))⟩
  · exact ⟨.blk _ _ (.inr (.inl nb)), W (by simp) (by simp) (wc a1 (wc wb wz))⟩
  · exact ⟨.blk _ _ (.inr (.inr (ptsB_dup dif_aa))), W (by simp) (by simp) (wc a1 (wc a3 (wc a4 (wc a4 wz))))⟩
  · exact ⟨.blk _ _ (.inr (.inr (ptsB_nm (x := badAt m) (by simp) nb))), W (by simp) (by simp) (wc a1 (wc a3 (wc wb (wc a4 wz))))⟩
  · exact ⟨.no _ _ (.inl (ne _ _ (by decide +kernel))) (.inr (by decide)) (.inl (ne _ _ (by decide +kernel))), W (by simp) (by simp) (wc b3 (wc b2 (wc a4 (wc a5 (wc a6 (wc a8 wz))))))⟩
  · exact ⟨.no _ _ (.inl (ne _ _ (by decide +kernel))) (.inr (by decide)) (.inl (ne _ _ (by decide +kernel))), W (by simp) (by simp) (wc b3 (wc b2 (wc a4 (wc a5 (wc a6 (wc a8 (wc a8 (wc a8 wz))))))))⟩
  · exact ⟨.dev _ _ _ _ _ _ _ rd11 (.inr (.inr (.inr ⟨1, 1, rfl, l1⟩))), W (by simp) (by simp) (wc b3 (wc b1 (wc a4 (wc a5 (wc a6 (wc a8 (wc a8 wz)))))))⟩
  · exact ⟨.dev _ _ _ _ _ _ _ rd01 (.inr (.inr (.inr ⟨0, 1, rfl, l2⟩))), W (by simp) (by simp) (wc b3 (wc b2 (wc a4 (wc a5 (wc a6 (wc b0 (wc a8 wz)))))))⟩
  · exact ⟨.dev _ _ _ _ _ _ _ rd10 (.inr (.inr (.inr ⟨1, 0, rfl, l3⟩))), W (by simp) (by simp) (wc b3 (wc b2 (wc a4 (wc a5 (wc a6 (wc a8 (wc b0 wz)))))))⟩
  · exact ⟨.dev _ _ _ _ _ _ none (.bad _ (badIw m) (by simp) (badI_no m).1) (.inr (.inr (.inl rfl))), W (by simp) (by simp) (wc b3 (wc b2 (wc a4 (wc a5 (wc a6 (wc wi (wc a8 wz)))))))⟩
  · exact ⟨.dev _ _ _ _ _ _ none (.bad _ (badIw m) (by simp) (badI_no m).1) (.inr (.inr (.inl rfl))), W (by simp) (by simp) (wc b3 (wc b2 (wc a4 (wc a5 (wc a6 (wc a8 (wc wi wz)))))))⟩
  · exact ⟨.dev _ _ _ _ _ _ _ rd11 (.inr (.inr (.inr ⟨1, 1, rfl, bdvB_ns (x := badAt m) (by simp [BDev.ns]) nb⟩))), W (by simp) (by simp) (wc b3 (wc b2 (wc wb (wc a5 (wc a6 (wc a8 (wc a8 wz)))))))⟩
  · exact ⟨.dev _ _ _ _ _ _ _ rd11 (.inr (.inr (.inr ⟨1, 1, rfl, bdvB_ns (x := badAt m) (by simp [BDev.ns]) nb⟩))), W (by simp) (by simp) (wc b3 (wc b2 (wc a4 (wc a5 (wc wb (wc a8 (wc a8 wz)))))))⟩
  · exact ⟨.no _ _ (.inl (ne _ _ (by decide +kernel))) (.inr (by decide)) (.inl (ne _ _ (by decide +kernel))), W (by simp) (by simp) (wc b3 (wc b2 (wc a4 (wc a0 (wc a5 (wc a6 (wc a8 (wc a8 wz))))))))⟩
  · exact ⟨.no _ _ (.inl (ne _ _ (by decide +kernel))) (.inl (ne _ _ (by decide +kernel))) (.inl (ne _ _ (by decide +kernel))), W (by simp) (by simp) (wc b4 (wc b2 (wc a4 (wc a5 (wc a6 (wc a8 (wc a8 wz)))))))⟩
  · exact ⟨.no _ _ (.inr rfl) (.inr (by decide)) (.inr rfl), W (by simp) (by simp) (wc b5 wz)⟩
  · exact ⟨.use _ _ (.inl hz'), W (by simp) (by simp) (wc b5 (wc b6 wz))⟩
  · exact ⟨.use _ _ (.inl hz'), W (by simp) (by simp) (wc b5 (wc b6 (wc a4 wz)))⟩
  · exact ⟨.use _ _ (.inl hn'), W (by simp) (by simp) (wc b5 (wc wn wz))⟩
  · exact ⟨.use _ _ (.inl hn'), W (by simp) (by simp) (wc b5 (wc wn (wc a4 wz)))⟩
  · exact ⟨.use _ _ (.inl hn'), W (by simp) (by simp) (wc b5 (wc wn (wc a4 (wc a5 (wc a6 (wc a7 wz))))))⟩
  · exact ⟨.use _ _ (.inr (.inr (bsuB_n nb))), W (by simp) (by simp) (wc b5 (wc wb wz))⟩
  · exact ⟨.no _ _ (.inr rfl) (.inr (by decide)) (.inr rfl), W (by simp) (by simp) (wc b3 wz)⟩
theorem qStr_k (d : Int) (k : Nat) : 107 ∈ (qStr d k).cps.toList := by
  unfold qStr
  rw [cps_app, cps_app]
  exact List.mem_append_left _ (List.mem_append_right _ (by decide +kernel))
theorem qStr_z4 (d : Int) (k : Nat) : ("zz" : Str) ≠ qStr d k ∧ ("zzzz" : Str) ≠ qStr d k := by
  have h := qStr_k d k
  constructor
  · intro e; rw [← e] at h; revert h; decide +kernel
  · intro e; rw [← e] at h; revert h; decide +kernel
theorem q_nozz {ns : List Int} {f : Int} {k : Nat} : ("zz" : Str) ∉ (qBs ns f k).map (·.n) ∧ ("zzzz" : Str) ∉ (qBs ns f k).map (·.n) := by
  constructor <;> intro h <;> obtain ⟨b, hb, e⟩ := List.mem_map.mp h <;> obtain ⟨d, j, _, e2⟩ := qBs_nm ns f k b hb
  · exact (qStr_z4 d j).1 (e.symm.trans e2)
  · exact (qStr_z4 d j).2 (e.symm.trans e2)
theorem q_P3 (ns : List Int) (f : Int) : ∀ k, ∀ b ∈ qBs ns f k, b.P.length ≤ 3
  | 0, b, h => by simp [qBs] at h
  | k + 1, b, h => by
    rw [qBs, List.mem_append] at h
    rcases h with h | h
    · exact q_P3 ns f k b h
    · rw [List.mem_singleton] at h
      subst h
      have := ptQ_len (bD ns f k) ((bD ns f k) 0 % 4).toNat
      show (ptQ _ _).length ≤ 3; omega
def isBl : Ln → Bool
  | .b _ => true
  | _ => false
def nmL (l : Ln) : Str := l.ws.getD 1 ""
theorem nms_ln : ∀ bs : List Blk, ((lnsT bs).filter isBl).map nmL = bs.map (·.n)
  | [] => rfl
  | b :: bs => by
    have e : lnsT (b :: bs) = lnsB b ++ lnsT bs := rfl
    have f1 : (b.V.map Ln.d).filter isBl = [] := List.filter_eq_nil_iff.mpr fun l h => by obtain ⟨v, _, rfl⟩ := List.mem_map.mp h; simp [isBl]
    have f2 : (b.U.map Ln.u).filter isBl = [] := List.filter_eq_nil_iff.mpr fun l h => by obtain ⟨v, _, rfl⟩ := List.mem_map.mp h; simp [isBl]
    rw [e, List.filter_append, List.map_append, nms_ln bs]
    unfold lnsB
    rw [List.filter_cons_of_pos (by rfl), List.filter_append, f1, f2]
    rfl
theorem sw_app (p x : Str) : Txt.startswith (p ++ x) p = true := by
  unfold Txt.startswith
  rw [Bool.and_eq_true]
  refine ⟨decide_eq_true (by rw [app_len]; omega), ?_⟩
  change ((p ++ x).cps.extract 0 (0 + p.length) == p.cps) = true
  rw [beq_iff_eq]
  refine Array.ext' ?_
  rw [Array.toList_extract, cps_app]
  have : 0 + p.length = p.cps.toList.length := by rw [Array.length_toList]; exact Nat.zero_add _
  rw [this, List.extract_eq_drop_take, Nat.sub_zero, List.drop_zero, List.take_left]
theorem sw_no {x p : Str} {a b : Nat} {r s : List Nat} (hx : x.cps.toList = a :: r) (hp : p.cps.toList = b :: s) (h : a ≠ b) : Txt.startswith x p = false := by
  rw [Bool.eq_false_iff]
  intro z
  unfold Txt.startswith at z
  rw [Bool.and_eq_true] at z
  have h1 : x.cps.extract 0 (0 + p.length) = p.cps := by
    have := z.2
    change (x.cps.extract 0 (0 + p.length) == p.cps) = true at this
    exact eq_of_beq this
  have hl : 0 + p.length = s.length + 1 := by
    have : p.length = p.cps.toList.length := by rw [Array.length_toList]; rfl
    rw [this, hp]; simp
  have h2 := congrArg Array.toList h1
  rw [hl, Array.toList_extract, hx, hp, List.extract_eq_drop_take] at h2
  simp at h2
  exact h h2.1
theorem lit_tl : ("block " : Str).cps.toList = [98, 108, 111, 99, 107, 32] ∧ ("device" : Str).cps.toList = [100, 101, 118, 105, 99, 101] ∧ ("use" : Str).cps.toList = [117, 115, 101] ∧ ("block " : Str) = ("block" : Str) ++ (" " : Str) := by decide +kernel
theorem ln_two (a b : Str) (r : List Str) : lnW (a :: b :: r) = a ++ (" " : Str) ++ lnW (b :: r) := rfl
theorem ln_sw (l : Ln) : Txt.startswith (lnW l.ws) "block " = isBl l := by
  cases l with
  | b b =>
    show Txt.startswith (lnW ("block" :: b.n :: b.P)) "block " = true
    rw [ln_two, lit_tl.2.2.2]; exact sw_app _ _
  | d v =>
    show Txt.startswith (lnW ("device" :: v.k :: [v.g, v.e, v.o, stI v.w, stI v.l])) "block " = false
    rw [ln_two]
    exact sw_no (by rw [cps_app, cps_app, lit_tl.2.1]; rfl) lit_tl.1 (by decide)
  | u u =>
    show Txt.startswith (lnW ("use" :: u.n :: u.N)) "block " = false
    rw [ln_two]
    exact sw_no (by rw [cps_app, cps_app, lit_tl.2.2.1]; rfl) lit_tl.1 (by decide)
def wAt (m : Int) (n : Str) (d : Int) : List Str := (wsW m n).getD (d % 29).toNat []
theorem wAt_mem (m : Int) (n : Str) (d : Int) : wAt m n d ∈ wsW m n := by
  have hl : (d % 29).toNat < (wsW m n).length := by show _ < 29; omega
  unfold wAt
  rw [List.getD_eq_getElem?_getD, List.getElem?_eq_getElem hl]; exact List.getElem_mem hl
theorem wAt_get (m : Int) (n : Str) (d : Int) : ((wsW m n).map lnW).getD (d % 29).toNat "" = lnW (wAt m n d) := by
  have hl : (d % 29).toNat < (wsW m n).length := by show _ < 29; omega
  unfold wAt
  rw [List.getD_eq_getElem?_getD, List.getElem?_map, List.getD_eq_getElem?_getD, List.getElem?_eq_getElem hl]; rfl
def usA (r : Blk) : BUse := ⟨r.n, List.replicate r.P.length "a"⟩
def bZ (r : Blk) : Blk := ⟨"zz", ["p"], [], [usA r]⟩
theorem few_l {k : Nat} (ns : List Int) (f : Int) (hk : k ≤ 4) : (lnsT (qBs ns f k)).length ≤ 24 := by
  have h : ∀ k, ∀ b ∈ qBs ns f k, b.V.length ≤ 3 ∧ b.U.length ≤ 2 := fun k => by
    induction k with
    | zero => intro b hb; simp [qBs] at hb
    | succ k ih =>
      intro b hb
      rw [qBs, List.mem_append] at hb
      rcases hb with hb | hb
      · exact ih b hb
      · rw [List.mem_singleton] at hb
        subst hb
        refine ⟨?_, ?_⟩
        · show (dvsQ _ _).length ≤ 3; rw [dvsQ_len]; omega
        · show (ussQ _ _ _ _).length ≤ 2; rw [ussQ_len]; unfold unQ; omega
  have g : ∀ xs : List Blk, (∀ b ∈ xs, b.V.length ≤ 3 ∧ b.U.length ≤ 2) → (lnsT xs).length ≤ 6 * xs.length := fun xs => by
    induction xs with
    | nil => intro _; simp [lnsT]
    | cons x xs ih =>
      intro hx
      have h1 := ih fun b hb => hx b (List.mem_cons_of_mem _ hb)
      have h2 := hx x List.mem_cons_self
      unfold lnsT at h1 ⊢
      rw [List.map_cons, List.flatten_cons, List.length_append, List.length_cons]
      have : (lnsB x).length ≤ 6 := by unfold lnsB; simp only [List.length_cons, List.length_append, List.length_map]; omega
      omega
  have := g _ (h k)
  rw [qBs_len] at this; omega
theorem lns_pos {bs : List Blk} (h : bs ≠ []) : 1 ≤ (lnsT bs).length := by
  obtain ⟨b, r, rfl⟩ := List.exists_cons_of_ne_nil h
  show 1 ≤ (lnsB b ++ lnsT r).length
  rw [List.length_append]; unfold lnsB; rw [List.length_cons]; omega
theorem qBs_tx {ns : List Int} {f : Int} {k : Nat} (hk : k ≤ 60) : TxS (qBs ns f k) := by
  obtain ⟨h1, h2⟩ := qBs_ok ns f k hk
  refine ⟨h1, h2, fun b hb v hv => ?_, by rw [qBs_len]; exact hk⟩
  have := qBs_small ns f k b hb v hv
  omega
theorem nm_a : nameB "a" = true ∧ nameB "zz" = true ∧ nameB "p" = true := by decide +kernel
theorem bZ_tx {bs : List Blk} (t : TxS bs) (hl : bs.length ≤ 59) (hz : ("zz" : Str) ∉ bs.map (·.n)) (hP : ∀ b ∈ bs, b.P.length ≤ 3) {r : Blk} (hr : bs[0]? = some r) : TxS (bs ++ [bZ r]) := by
  have hrm := List.mem_of_getElem? hr
  have okr := t.bk r hrm
  have hr3 := hP r hrm
  have ok : BkOk (bZ r) := by
    refine ⟨nm_a.2.1, fun x hx => by rw [List.mem_singleton.mp hx]; exact nm_a.2.2, by simp [bZ], fun v hv => by simp [bZ] at hv, fun u hu => ?_, ⟨by simp [bZ], by simp [bZ], by simp [bZ]⟩, fun u hu => ?_⟩
    · rw [List.mem_singleton.mp hu]
      exact ⟨okr.n, fun x hx => by rw [(List.mem_replicate.mp hx).2]; exact nm_a.1⟩
    · rw [List.mem_singleton.mp hu]
      show (List.replicate _ _).length ≤ 10
      rw [List.length_replicate]; omega
  have hin : r.n ∈ nmsB (libB bs) := nms_D.mpr (List.mem_map.mpr ⟨r, hrm, rfl⟩)
  refine ⟨schOk_snoc t.ok ⟨fun h => hz (nms_D.mp h), fun u hu => ?_, fun u hu => ?_⟩ ok, fun b hb => ?_, fun b hb v hv => ?_, by rw [List.length_append]; show bs.length + 1 ≤ 60; omega⟩
  · rw [List.mem_singleton.mp hu]; exact hin
  · rw [List.mem_singleton.mp hu]
    show ((usA r).N.length : Int) = cntB ptB (libB bs) r.n
    unfold usA
    simp only
    rw [cntB_at' hin, List.length_replicate]
    show _ = ((atB (libB bs) r.n).b.P.length : Int)
    rw [atB_get t.ok hr]
  · rcases List.mem_append.mp hb with hb | hb
    · exact t.bk b hb
    · rw [List.mem_singleton.mp hb]; exact ok
  · rcases List.mem_append.mp hb with hb | hb
    · exact t.w b hb v hv
    · rw [List.mem_singleton.mp hb] at hv; simp [bZ] at hv
theorem pt_r {bs : List Blk} (t : TxS bs) {r : Blk} (hr : bs[0]? = some r) : cntB ptB (libB bs) r.n = (r.P.length : Int) := by
  have hin : r.n ∈ nmsB (libB bs) := nms_D.mpr (List.mem_map.mpr ⟨r, List.mem_of_getElem? hr, rfl⟩)
  rw [cntB_at' hin]
  show ((atB (libB bs) r.n).b.P.length : Int) = _
  rw [atB_get t.ok hr]
def dvW83 : List Str := ["device", "n", "a", "b", "c", "1", "1"]
def moW (r : Blk) : List (List Str) := [dvW83, "use" :: r.n :: List.replicate (r.P.length + 1) "a", ["use", "zz", "a"], ["block", "zz"], ["use", r.n, "b", "c", "b", "c"]]
def fiW (r : Blk) : List (List Str) := [dvW83, ["use", "zz"], [""], ["block"], "use" :: r.n :: List.replicate r.P.length "a"]
theorem dvW83_wm : WsM dvW83 := by
  obtain ⟨⟨a0, a1, a2, a3, a4, a5, a6, a7, a8⟩, b0, b1, b2, b3, _⟩ := lits83
  exact wm_of (by simp [dvW83]) (by simp [dvW83]) (wc b3 (wc b2 (wc a4 (wc a5 (wc a6 (wc a8 (wc a8 wz)))))))
theorem us_wm {r : Blk} (hk : nameB r.n = true) {k : Nat} (h : k ≤ 4) : WsM ("use" :: r.n :: List.replicate k "a") := by
  obtain ⟨⟨a0, a1, a2, a3, a4, a5, a6, a7, a8⟩, b0, b1, b2, b3, b4, b5, _⟩ := lits83
  exact wm_of (by simp) (by simp; omega) (wc b5 (wc (name_w hk) fun w hw => by rw [(List.mem_replicate.mp hw).2]; exact a4))
theorem mo_bad {bs : List Blk} (t : TxS bs) (hz : ("zz" : Str) ∉ bs.map (·.n)) {r : Blk} (hr : bs[0]? = some r) (h3 : r.P.length ≤ 3) : ∀ ws ∈ moW r, TkBad ⟨bs, some (bZ r)⟩ ws ∧ WsM ws := fun ws h => by
  obtain ⟨⟨a0, a1, a2, a3, a4, a5, a6, a7, a8⟩, b0, b1, b2, b3, b4, b5, _⟩ := lits83
  have W : ∀ {ws : List Str}, ws ≠ [] → ws.length ≤ 12 → (∀ w ∈ ws, WOk w) → WsM ws := wm_of
  have hk := (t.bk r (List.mem_of_getElem? hr)).n
  have wn := name_w hk
  unfold moW at h
  simp only [List.mem_cons, List.not_mem_nil, or_false] at h
  rcases h with rfl | rfl | rfl | rfl | rfl
  · exact ⟨.dev _ _ _ _ _ _ _ rd11 (.inr (.inl (by simp [usO, bZ]))), dvW83_wm⟩
  · exact ⟨.use _ _ (.inr (.inl (by show ((List.replicate _ _).length : Int) ≠ cntB ptB (libB bs) r.n; rw [pt_r t hr, List.length_replicate]; omega))), us_wm hk (by omega)⟩
  · exact ⟨.use _ _ (.inl fun h => hz (nms_D.mp h)), W (by simp) (by simp) (wc b5 (wc a3 (wc a4 wz)))⟩
  · exact ⟨.blk _ _ (.inl (nw_old (by simp [bZ]))), W (by simp) (by simp) (wc a1 (wc a3 wz))⟩
  · exact ⟨.use _ _ (.inr (.inl (by show (4 : Int) ≠ cntB ptB (libB bs) r.n; rw [pt_r t hr]; omega))), W (by simp) (by simp) (wc b5 (wc wn (wc a5 (wc a6 (wc a5 (wc a6 wz))))))⟩
theorem fi_bad {r : Blk} (hk : nameB r.n = true) (h3 : r.P.length ≤ 3) : ∀ ws ∈ fiW r, TkBad ⟨[], none⟩ ws ∧ WsM ws := fun ws h => by
  obtain ⟨⟨a0, a1, a2, a3, a4, a5, a6, a7, a8⟩, b0, b1, b2, b3, b4, b5, _⟩ := lits83
  have W : ∀ {ws : List Str}, ws ≠ [] → ws.length ≤ 12 → (∀ w ∈ ws, WOk w) → WsM ws := wm_of
  unfold fiW at h
  simp only [List.mem_cons, List.not_mem_nil, or_false] at h
  rcases h with rfl | rfl | rfl | rfl | rfl
  · exact ⟨.dev _ _ _ _ _ _ _ rd11 (.inl rfl), dvW83_wm⟩
  · exact ⟨.use _ _ (.inl fun h => by simp [nmsB, libB] at h), W (by simp) (by simp) (wc b5 (wc a3 wz))⟩
  · exact ⟨.no _ _ (.inr rfl) (.inr (by decide)) (.inr rfl), W (by simp) (by simp) (wc a0 wz)⟩
  · exact ⟨.no _ _ (.inr rfl) (.inr (by decide)) (.inr rfl), W (by simp) (by simp) (wc a1 wz)⟩
  · exact ⟨.use _ _ (.inl fun h => by simp [nmsB, libB] at h), us_wm hk (by omega)⟩
theorem emp_bad2 {s : BLs} : TkBad s [""] ∧ WsM [""] := ⟨.no _ _ (.inr rfl) (.inr (by decide)) (.inr rfl), wm_of (by simp) (by simp) (wc lits83.1.1 wz)⟩
theorem six_px : PXs ((lnsT (bs60 60)).map Ln.ws ++ ([["block", "m60"]] : List (List Str))) ((1 : Nat) + ((lnsT (bs60 60)).length : Int)) := by
  have e := bs60_succ 59
  have t := bs60_tx
  rw [e] at t ⊢
  refine px_at t (wm_of (by simp) (by simp) (wc lits83.1.2.1 (wc lits83.2.2.2.2.2.2.2.2 wz))) (.blk _ _ (.inl ?_)) (fun ws h => by cases h) (by simp)
  unfold nwB
  show (_ && decide (((keyB (libB (bs60 59 ++ [b60 59]))).length : Int) < 60)) = false
  rw [keyB_len, libB_len, decide_eq_false (by simp [bs60]), Bool.and_false]
def laB : List Blk := [⟨"a", ["b"], [], []⟩, ⟨"c", [], [], [⟨"a", ["b"]⟩]⟩]
theorem la_nm : nameB "a" = true ∧ nameB "b" = true ∧ nameB "c" = true ∧ ("c" : Str) ≠ "a" := ⟨by decide +kernel, by decide +kernel, by decide +kernel, of_decide_eq_false (by decide +kernel)⟩
theorem la_tx : TxS laB := by
  have ok1 : BkOk ⟨"a", ["b"], [], []⟩ := ⟨la_nm.1, fun x hx => by rw [List.mem_singleton.mp hx]; exact la_nm.2.1, by simp, fun v hv => by simp at hv, fun u hu => by simp at hu, by simp, fun u hu => by simp at hu⟩
  have ok2 : BkOk ⟨"c", [], [], [⟨"a", ["b"]⟩]⟩ := ⟨la_nm.2.2.1, fun x hx => by simp at hx, by simp, fun v hv => by simp at hv, fun u hu => by rw [List.mem_singleton.mp hu]; exact ⟨la_nm.1, fun x hx => by rw [List.mem_singleton.mp hx]; exact la_nm.2.1⟩, by simp, fun u hu => by rw [List.mem_singleton.mp hu]; simp⟩
  have h1 : SchOk ([] ++ [⟨"a", ["b"], [], []⟩]) := schOk_snoc schOk_nil ⟨fun h => by simp [nmsB, libB] at h, fun u hu => by simp at hu, fun u hu => by simp at hu⟩ ok1
  have hin : ("a" : Str) ∈ nmsB (libB [⟨"a", ["b"], [], []⟩]) := nms_D.mpr (by simp)
  have h2 : SchOk (([] ++ [⟨"a", ["b"], [], []⟩]) ++ [⟨"c", [], [], [⟨"a", ["b"]⟩]⟩]) := schOk_snoc h1 ⟨fun h => by have := nms_D.mp h; simp at this; exact la_nm.2.2.2 this, fun u hu => by rw [List.mem_singleton.mp hu]; exact hin, fun u hu => by rw [List.mem_singleton.mp hu]; rfl⟩ ok2
  refine ⟨h2, fun b hb => ?_, fun b hb v hv => ?_, by simp [laB]⟩
  · unfold laB at hb
    rcases List.mem_cons.mp hb with rfl | hb
    · exact ok1
    · rw [List.mem_singleton.mp hb]; exact ok2
  · unfold laB at hb
    rcases List.mem_cons.mp hb with rfl | hb
    · simp at hv
    · rw [List.mem_singleton.mp hb] at hv; simp at hv
theorem la_px : PXs [["block", "a", "b"], ["block", "c"], ["use", "a", "b"], ["use", "a"]] 4 := by
  have h := px_at (bs := [⟨"a", ["b"], [], []⟩]) (b := ⟨"c", [], [], [⟨"a", ["b"]⟩]⟩) (ww := ["use", "a"]) (rr := []) la_tx (wm_of (by simp) (by simp) (wc lits83.2.2.2.2.2.2.1 (wc lits83.1.2.2.2.2.1 wz))) (.use _ _ (.inr (.inl (by show (0 : Int) ≠ 1; decide)))) (fun ws h => by cases h) (by simp)
  exact h
theorem lnT_ws (ls : List Ln) : lnT ls = ((ls.map Ln.ws).map lnW).map D.str := by
  unfold lnT
  rw [List.map_map (f := Ln.ws)]; rfl
theorem txS_ws (bs : List Blk) : Str.join "\n" (((lnsT bs).map Ln.ws).map lnW) = txS bs := by
  unfold txS
  rw [List.map_map]; rfl
theorem txS_room2 {bs : List Blk} (t : TxS bs) : sumL (((lnsT bs).map Ln.ws).map lnW) + (((lnsT bs).map Ln.ws).map lnW).length * ("\n" : Str).length ≤ 640000 := by
  have := txS_room t
  rwa [show ((lnsT bs).map fun l => lnW l.ws) = ((lnsT bs).map Ln.ws).map lnW by rw [List.map_map]; rfl] at this
theorem ln_w2 (l : Ln) : D.lst (l.ws.map .str) = D.lst (.str l.hd :: .str (nmL l) :: (l.ws.drop 2).map .str) := by cases l <;> rfl
theorem dev_fall {s : BLs} {k g e o : Str} {w l : Int} (h : s.c = none ∨ usO s.c ≠ [] ∨ some [w, l] = (none : Option (List Int)) ∨ ∃ w2 l2, some [w, l] = some [w2, l2] ∧ bdvB ⟨k, g, e, o, w2, l2⟩ = false)
    (hx : (isNon (nmO s.c) || (!(List.map BUse.d (usO s.c)).isEmpty || (isNon (optT (some [w, l])) || !bdvB ⟨k, g, e, o, w, l⟩))) = false) : False := by
  rcases h with h | h | h | ⟨w2, l2, h, h4⟩
  · rw [h] at hx; cases hx
  · cases q : usO s.c with
    | nil => exact h q
    | cons a r => rw [q] at hx; simp at hx
  · cases h
  · cases h; rw [h4] at hx; simp at hx
theorem at_nm0 {ds : List Blk} {d : Blk} : atI (((lnsT (ds ++ [d])).filter isBl).map fun l => D.str (nmL l)) (-1) = some (D.str d.n) := by
  refine atI_last ?_
  rw [show (((lnsT (ds ++ [d])).filter isBl).map fun l => D.str (nmL l)) = (((lnsT (ds ++ [d])).filter isBl).map nmL).map D.str by rw [List.map_map]; rfl, nms_ln]
  simp
theorem wsQ_Z (bs : List Blk) (r : Blk) : (lnsT (bs ++ [bZ r])).map Ln.ws = (lnsT bs).map Ln.ws ++ ([["block", "zz", "p"], "use" :: r.n :: List.replicate r.P.length "a"] : List (List Str)) := by
  rw [lnsT_snoc, List.map_append]; rfl
theorem ln_more (r : Blk) : lnW ("use" :: r.n :: List.replicate r.P.length "a") ++ (" a" : Str) = lnW ("use" :: r.n :: List.replicate (r.P.length + 1) "a") := by
  rw [show (" a" : Str) = (" " : Str) ++ ("a" : Str) by decide +kernel, ← app_assoc]
  rw [ln_sfx (a := "use" :: r.n :: List.replicate r.P.length "a") (w := "a") (by simp) rfl, List.replicate_succ']; rfl
theorem ln_bcbc (n : Str) : ("use " : Str) ++ n ++ sRep " b c" 2 = lnW ["use", n, "b", "c", "b", "c"] := by
  rw [show sRep " b c" 2 = (" " : Str) ++ lnW ["b", "c", "b", "c"] by decide +kernel]
  exact ln_inf (a := ["use"]) (b := ["b", "c", "b", "c"]) (by simp) (by simp) (by decide +kernel) rfl
theorem lits_l : lnW dvW83 = ("device n a b c 1 1" : Str) ∧ lnW ["use", "zz", "a"] = ("use zz a" : Str) ∧ lnW ["block", "zz"] = ("block zz" : Str) ∧ lnW ["use", "zz"] = ("use zz" : Str) ∧ lnW [""] = ("" : Str) ∧ lnW ["block"] = ("block" : Str) ∧ lnW ["block", "zz", "p"] = ("block zz p" : Str) := by decide +kernel
theorem mo_str (r : Blk) : ([("device n a b c 1 1" : Str), lnW ("use" :: r.n :: List.replicate r.P.length "a") ++ (" a" : Str), "use zz a", "block zz", ("use " : Str) ++ r.n ++ sRep " b c" 2] : List Str) = (moW r).map lnW := by
  obtain ⟨l0, l1, l2, l3, l4, l5, l6⟩ := lits_l
  unfold moW
  rw [ln_more, ln_bcbc]
  simp only [List.map_cons, List.map_nil]
  rw [l0, l1, l2]
theorem fi_str (r : Blk) : ([("device n a b c 1 1" : Str), "use zz", "", "block", lnW ("use" :: r.n :: List.replicate r.P.length "a")] : List Str) = (fiW r).map lnW := by
  obtain ⟨l0, l1, l2, l3, l4, l5, l6⟩ := lits_l
  unfold fiW
  simp only [List.map_cons, List.map_nil]
  rw [l0, l3, l4, l5]
theorem six_str : ((List.range 61).map fun (k : Nat) => ("block m" : Str) ++ stI (k : Int)) = ((lnsT (bs60 60)).map Ln.ws ++ ([["block", "m60"]] : List (List Str))).map lnW := by
  rw [List.map_append, List.map_map]
  have := lines_60 60
  rw [show (lnW ∘ Ln.ws) = (fun l : Ln => lnW l.ws) from rfl, this, List.range_succ, List.map_append]
  exact congrArg _ (show [("block m" : Str) ++ stI ((60 : Nat) : Int)] = [lnW ["block", "m60"]] by decide +kernel)
theorem la_str : (["block a b", "block c", "use a b", "use a"] : List Str) = ([["block", "a", "b"], ["block", "c"], ["use", "a", "b"], ["use", "a"]] : List (List Str)).map lnW := by decide +kernel
theorem six_len : ((lnsT (bs60 60)).length : Int) = 60 := by
  have := congrArg List.length (lines_60 60)
  rw [List.length_map, List.length_map, List.length_range] at this
  rw [this]; rfl
theorem bs_snoc {bs : List Blk} (h : 1 ≤ bs.length) : ∃ ds d, bs = ds ++ [d] := ⟨bs.dropLast, bs.getLast (by intro e; rw [e] at h; simp at h), (List.dropLast_concat_getLast _).symm⟩
theorem rep_a83 (n : Nat) : (List.replicate ((n : Int)).toNat [D.str "a"]).flatten = (List.replicate n ("a" : Str)).map D.str := by
  rw [Int.toNat_natCast]
  induction n with
  | zero => rfl
  | succ n ih => rw [List.replicate_succ, List.flatten_cons, ih, List.replicate_succ]; rfl
theorem ls_app83 (W U : List (List Str)) : ((W ++ U).map lnW).map D.str = (W.map lnW).map D.str ++ (U.map lnW).map D.str := by rw [List.map_append, List.map_append]
theorem cutTk83 (l : List D) {k : Int} (h : 0 ≤ k) : cutD l none (some k) = l.take k.toNat := by
  unfold cutD
  have h1 : HT.sIx l.length 0 none = 0 := rfl
  have h2 : HT.sIx l.length l.length (some k) = min k.toNat l.length := by
    unfold HT.sIx
    simp only
    split <;> omega
  rw [h1, h2]
  rw [List.drop_zero, Nat.sub_zero]
  rcases Nat.le_total k.toNat l.length with q | q
  · rw [Nat.min_eq_left q]
  · rw [Nat.min_eq_right q, List.take_of_length_le q, List.take_of_length_le (Nat.le_refl _)]
theorem ls_take83 (W : List (List Str)) {k : Int} (h : 0 ≤ k) : cutD ((W.map lnW).map D.str) none (some k) = ((W.take k.toNat).map lnW).map D.str := by rw [cutTk83 _ h, List.map_take, List.map_take]
theorem ls_drop83 (W : List (List Str)) {k : Int} (h : 0 ≤ k) : cutD ((W.map lnW).map D.str) (some k) none = ((W.drop k.toNat).map lnW).map D.str := by rw [cutDrop _ h, List.map_drop, List.map_drop]
theorem cut_n {ds : List Blk} {d : Blk} (t : TxS (ds ++ [d])) : d.n ∉ ds.map (·.n) := fun h => by
  have nd := schOk_nodup t.ok
  rw [List.map_append] at nd
  exact (List.nodup_append.mp nd).2.2 _ h _ (by simp) rfl
theorem cut_z {Q ds : List Blk} {d : Blk} {z : Str} (hnm : ∀ x ∈ ds ++ [d], ∃ y ∈ Q, x.n = y.n) (h : z ∉ Q.map (·.n)) : z ∉ ds.map (·.n) := fun m => by
  obtain ⟨x, hx, e⟩ := List.mem_map.mp m
  obtain ⟨y, hy, e2⟩ := hnm x (List.mem_append_left _ hx)
  exact h (List.mem_map.mpr ⟨y, hy, e2.symm.trans e⟩)
theorem us_all {r : Blk} (ok : BkOk r) : ∀ w ∈ (("use" : Str) :: r.n :: List.replicate r.P.length "a"), WOk w :=
  wc lits83.2.2.2.2.2.2.1 (wc (name_w ok.n) fun w hw => by rw [(List.mem_replicate.mp hw).2]; exact lits83.1.2.2.2.2.1)
theorem us_room {r : Blk} (ok : BkOk r) (h3 : r.P.length ≤ 3) : sumL (("use" : Str) :: r.n :: List.replicate r.P.length "a") + (("use" : Str) :: r.n :: List.replicate r.P.length "a").length * (" " : Str).length ≤ sizeLine := by
  have h1 := sumL_le (k := 41) (zs := ("use" : Str) :: r.n :: List.replicate r.P.length "a") fun w hw => (us_all ok w hw).n
  have h2 : (("use" : Str) :: r.n :: List.replicate r.P.length "a").length ≤ 5 := by simp only [List.length_cons, List.length_replicate]; omega
  rw [lens.2.2.2.1, sizeLine_eq]
  have : 41 * (("use" : Str) :: r.n :: List.replicate r.P.length "a").length ≤ 41 * 5 := Nat.mul_le_mul_left _ h2
  omega
theorem us_room2 {r : Blk} (ok : BkOk r) (h3 : r.P.length ≤ 3) : (lnW (("use" : Str) :: r.n :: List.replicate r.P.length "a")).length + (" a" : Str).length ≤ sizeLine := by
  have h := ln_len12 (us_all ok) (by simp only [List.length_cons, List.length_replicate]; omega)
  rw [show (" a" : Str).length = 2 by decide +kernel, sizeLine_eq]; omega
theorem add_ok83 {a b : Str} (h : a.length ≤ 100) (h2 : b.length ≤ 41) : a.length + b.length ≤ sizeLine := by rw [sizeLine_eq]; omega
theorem us_room3 {r : Blk} (ok : BkOk r) : (("use " : Str) ++ r.n).length + (sRep " b c" 2).length ≤ sizeLine := by
  have := (name_w ok.n).n
  rw [app_len, show ("use " : Str).length = 4 by decide +kernel, show (sRep " b c" 2).length = 8 by decide +kernel, sizeLine_eq]; omega
theorem add_ok {a b : Str} (h : a.length ≤ 100) (h2 : b.length ≤ 41) : a.length + b.length ≤ sizeLine := by rw [sizeLine_eq]; omega
theorem add_ok2 {a b c : Str} (h : a.length ≤ 100) (h2 : b.length ≤ 41) (h3 : c.length ≤ 100) : (a ++ b).length + c.length ≤ sizeLine := by rw [app_len, sizeLine_eq]; omega
theorem no_b2 {w x : Str} {ws : List Str} (h : w ≠ x ∨ ws = []) (h1 : (decide (w = x) && decide ((2 : Int) ≤ ((List.map D.str (w :: ws)).length : Int))) = true) : False := by
  rw [Bool.and_eq_true, decide_eq_true_eq, decide_eq_true_eq] at h1
  rcases h with h | rfl
  · exact h h1.1
  · have := h1.2; simp at this
theorem no_d {w x : Str} {ws : List Str} (h : w ≠ x ∨ ws.length ≠ 6) (h1 : (decide (w = x) && decide (((List.map D.str (w :: ws)).length : Int) = 7)) = true) : False := by
  rw [Bool.and_eq_true, decide_eq_true_eq, decide_eq_true_eq] at h1
  rcases h with h | h
  · exact h h1.1
  · have := h1.2; simp at this; omega
theorem use_fall {D0 : List Blk} {n : Str} {N : List Str} (h : n ∉ nmsB (libB D0) ∨ (N.length : Int) ≠ cntB ptB (libB D0) n ∨ bsuB ⟨n, N⟩ = false)
    (hx : ((!hasK (keyB (libB D0)) (.inr n)) || (!decide (((N.map D.str).length : Int) = cntB ptB (libB D0) n) || !bsuB ⟨n, N⟩)) = false) : False := by
  rw [Bool.or_eq_false_iff, Bool.or_eq_false_iff] at hx
  rcases h with h | h | h
  · exact h (hold_of hx.1)
  · have := hx.2.1; rw [List.length_map] at this; simp at this; exact h this
  · rw [h] at hx; simp at hx
end DL
namespace DL
open PySem PySem.Spec PyProof.Rows L2
local macro_rules | `(tactic| walk_at "side") => `(tactic| first | assumption | decide | omega | (simp only [List.length_map, List.length_append, List.length_cons, List.length_nil, sizeLine_eq] at *; omega))
local macro_rules | `(tactic| walk_at "len") => `(tactic| first | decide | (simp [sizeLine_eq]; done) | (simp [sizeLine_eq]; omega))
local macro_rules | `(tactic| walk_at "b2") => `(tactic| first
  | exact b2_add | exact b2_sub | exact b2_mod (by decide) | exact b2_fdiv ⟨by decide, by decide⟩
  | exact b2_mul (by first | exact Or.inr ⟨by decide, by decide⟩ | exact Or.inl ⟨by decide, by decide⟩ | exact Or.inr ⟨by omega, by omega⟩ | exact Or.inl ⟨by omega, by omega⟩)
  | exact b2_mod (by first | assumption | omega) | exact b2_fdiv ⟨by omega, by omega⟩ | exact b2_addS (by walk_at "side"))
local macro_rules | `(tactic| walk_at "c2") => `(tactic| first
  | exact c2_lt | exact c2_le | exact c2_gt | exact c2_ge | exact c2_eqI | exact c2_neI | exact c2_isN | exact c2_notN | exact c2_isB | exact c2_notB | exact c2_eqB | exact c2_neB | exact c2_eqS | exact c2_neS | exact c2_leS | exact c2_inInts | exact c2_eq2 (by assumption) | exact c2_eq4 (by assumption) | exact c2_ne2 (by assumption) | exact c2_ne4 (by assumption) | exact c2_eqInts (by assumption) | exact c2_neInts (by assumption) | exact c2_eqIntsL (by assumption) | exact c2_inSq (by assumption) | exact c2_notInSq (by assumption) | exact c2_eqBx (by assumption) | exact c2_neBx (by assumption))
local macro_rules | `(tactic| walk_at "ix") => `(tactic| first | exact IX.t0 | exact IX.t1 | exact IX.t2 | exact IX.t3 | exact IX.t4 | exact IX.t5 | exact IX.l0 | exact IX.l1 | exact IX.l2 | exact IX.l (at_draws (by first | decide | omega) (by first | decide | omega)) | exact ix_sel3 ⟨by omega, by omega⟩ | exact IX.l rfl)
local macro_rules | `(tactic| walk_at "bc") => `(tactic| first | exact bc_int | exact bc_lenL | exact bc_lenT | exact bc_tupL | exact bc_tupT | exact bc_min2 rfl | exact bc_max2 rfl)
local macro_rules | `(tactic| walk_at "bo") => `(tactic| first | exact bo_listL | exact bo_listT)
local macro_rules | `(tactic| walk_at "mk") => `(tactic| first | exact .mk _ | exact .mk _ _ | exact .mk _ _ _ | exact .mk _ _ _ _ | exact .mk _ _ _ _ _ | exact .mk _ _ _ _ _ _ | exact .mk _ _ _ _ _ _ _ | exact .mk _ _ _ _ _ _ _ _ | exact .mk)
local macro_rules | `(tactic| walk_at "kd") => `(tactic| first | exact kd_int | exact kd_bl | exact kd_str | (refine' kd_tup ?l ?c ?e ?z ?r; (case l => k_is); (case c => rfl); (case e => rfl); (case z => decide); (case r => walk_at "kds")))
local macro_rules | `(tactic| walk_at "kds") => `(tactic| first | exact kds_nil | (refine' kds_cons ?a ?b; (case a => walk_at "kd"); (case b => walk_at "kds")))
local macro_rules | `(tactic| walk_at "en") => `(tactic| simp only [en, enI, enL, List.map_cons, List.map_nil, List.length_cons, List.length_nil, List.cons_append, List.nil_append, List.replicate, Nat.add_one_sub_one, Nat.reduceAdd, Nat.reduceSub])
local macro_rules | `(tactic| walk_at "env") => `(tactic| simp only [upds, List.foldl_cons, List.foldl_nil, OC.d, List.set_cons_zero, List.set_cons_succ])
inductive R_E_InvalidText : List D → List D → Prop where
  | mk (i : Int) (h : Sm i) : R_E_InvalidText [.int i] [.int i]
inductive R_is_name : List D → D → Prop where
  | mk (x : Str) (h : x.length ≤ sizeLine) : R_is_name [.str x] (.bl (nameB x))
inductive R_are_different : List D → D → Prop where
  | mk (xs : List Str) (h : xs.length ≤ 1000) : R_are_different [.lst (xs.map .str)] (.bl (difB xs))
inductive R_are_ports : List D → D → Prop where
  | gen (xs : List Str) (h : xs.length ≤ 1000) (sz : ∀ x ∈ xs, x.length ≤ sizeLine) : R_are_ports [.lst (xs.map .str)] (.bl (ptsB xs))
theorem R_are_ports.mk (xs : List Str) (nd : xs.Nodup) (h : xs.length ≤ 1000) (ok : ∀ x ∈ xs, nameB x = true) : R_are_ports [.lst (xs.map .str)] (.bl true) := by
  have := R_are_ports.gen xs h fun x hx => nm_size (ok x hx)
  rwa [ptsB_ok ok nd] at this
inductive R_is_block_device : List D → D → Prop where
  | gen (v : BDev) (sz : ∀ x ∈ v.ns, x.length ≤ sizeLine) : R_is_block_device [v.d] (.bl (bdvB v))
theorem R_is_block_device.mk (v : BDev) (ok : v.k ∈ (["n", "p"] : List Str) ∧ (∀ x ∈ v.ns, nameB x = true) ∧ 1 ≤ v.w ∧ 1 ≤ v.l) : R_is_block_device [v.d] (.bl true) := by
  have := R_is_block_device.gen v fun x hx => nm_size (ok.2.1 x hx)
  rwa [bdvB_ok ok] at this
inductive R_is_use : List D → D → Prop where
  | gen (u : BUse) (h : u.N.length ≤ 1000) (sz : u.n.length ≤ sizeLine ∧ ∀ x ∈ u.N, x.length ≤ sizeLine) : R_is_use [u.d] (.bl (bsuB u))
theorem R_is_use.mk (u : BUse) (h : u.N.length ≤ 10) (ok : nameB u.n = true ∧ ∀ x ∈ u.N, nameB x = true) : R_is_use [u.d] (.bl true) := by
  have := R_is_use.gen u (by omega) ⟨nm_size ok.1, fun x hx => nm_size (ok.2 x hx)⟩
  rwa [bsuB_ok ok] at this
inductive R_Block_init : List D → List Str → List D → Prop where
  | mk (b : Blk) (ok : BkOk b) : R_Block_init [.str b.n, .lst (b.P.map .str), .lst (b.V.map BDev.d), .lst (b.U.map BUse.d)] blkN (blkV b)
inductive R_own_nets : List D → D → Prop where
  | mk (b : Blk) (ok : BkOk b) : R_own_nets [blkD b] (.lst ((ownB b).map .str))
inductive R_Schematic_init : List D → List Str → List D → Prop where
  | mk (bs : List Blk) (ok : SchOk bs) (hl : bs.length ≤ 60) : R_Schematic_init [.lst (bs.map blkD)] schN (schF (libB bs))
inductive R_Schematic_append_block : Addr → Cs → List D → (Cs → D → Prop) → Prop where
  | mk (a p q s t : Addr) (R : List SRow) (b : Blk) (can : CanB R b) (ok : BkOk b) (hl : R.length ≤ 1000) : R_Schematic_append_block a (schC a p q s t R) [blkD b] (fun cs d => cs = schC a p q s t (stepB R b) ∧ d = .non)
inductive R_Schematic_block : List D → D → Prop where
  | mk (R : List SRow) (n : Str) (h : n ∈ nmsB R) : R_Schematic_block [schD R, .str n] (blkD (atB R n).b)
inductive R_Schematic_known : List D → D → Prop where
  | mk (fd ds : List D) (ks : List Key) (n : Str) (d : D) (h : lookK ks ds (.inr n) = some d) : R_Schematic_known [.obj "Schematic" schN fd, .dk ks ds, .str n] d
inductive R_is_integer : List D → D → Prop where
  | gen (w : Str) (h : w.length ≤ 50) : R_is_integer [.str w] (.bl (isIB w))
theorem R_is_integer.mk (i : Int) (h : RdI i) : R_is_integer [.str (stI i)] (.bl true) := by
  have := R_is_integer.gen (stI i) (by have := h.len; omega)
  rwa [h.rz.isI] at this
inductive R_read_integers : List D → D → Prop where
  | gen (ws : List Str) (o : Option (List Int)) (r : RdW ws o) (hs : ∀ w ∈ ws, w.length ≤ 50) (hl : ws.length ≤ 100) : R_read_integers [.lst (ws.map .str)] (optT o)
theorem R_read_integers.mk (ns : List Int) (h : ∀ i ∈ ns, RdI i) (hl : ns.length ≤ 100) : R_read_integers [.lst (ns.map fun i => .str (stI i))] (.tup (ns.map .int)) := by
  have := R_read_integers.gen (ns.map stI) (some ns) (.ok ns fun i hi => (h i hi).rz) (fun w hw => by obtain ⟨i, hi, rfl⟩ := List.mem_map.mp hw; have := (h i hi).len; omega) (by rw [List.length_map]; exact hl)
  rwa [List.map_map] at this
inductive R_BlockList_init : Addr → List D → (Cs → Prop) → Prop where
  | mk (a : Addr) : R_BlockList_init a [] (fun cs => ∃ p q r, cs = blC a p q r [] none)
inductive R_BlockList_take_v : Addr → Cs → List D → (Cs → D → Prop) → Prop where
  | mk (a p q r : Addr) (s : BLs) (l : Ln) (h : LOk s l) : R_BlockList_take_v a (blC a p q r s.D s.c) [.lst (l.ws.map .str)] (fun cs d => ∃ q2 r2, cs = blC a p q2 r2 (stL s l).D (stL s l).c ∧ d = .bl true)
inductive R_BlockList_take_x : Addr → Cs → List D → (Cs → D → Prop) → Prop where
  | mk (a p q r : Addr) (s : BLs) (ws : List Str) (ok : CurOk s) (w : WsM ws) (h : TkBad s ws) : R_BlockList_take_x a (blC a p q r s.D s.c) [.lst (ws.map .str)] (fun _ d => d = .bl false)
inductive R_BlockList_whole : Addr → Cs → List D → (Cs → D → Prop) → Prop where
  | mk (a p q r : Addr) (s : BLs) (ok : ∀ b ∈ s.c.toList, BkOk b ∧ b.n ∉ nmsB (libB s.D)) (sk : SchOk (s.D ++ s.c.toList)) (hl : (s.D ++ s.c.toList).length ≤ 60) : R_BlockList_whole a (blC a p q r s.D s.c) [] (fun cs d => d = schD (libB (s.D ++ s.c.toList)))
inductive R_BlockList_complete : Addr → Cs → List D → (Cs → D → Prop) → Prop where
  | mk (a p q r : Addr) (Z : List Blk) (c : Option Blk) (ok : ∀ b ∈ c.toList, BkOk b ∧ b.n ∉ nmsB (libB Z)) (hl : Z.length ≤ 1000) : R_BlockList_complete a (blC a p q r Z c) [] (fun cs d => cs = blC a p q r (Z ++ c.toList) c ∧ d = .non)
inductive R_BlockList_take_block_v : Addr → Cs → List D → (Cs → D → Prop) → Prop where
  | mk (a p q r : Addr) (s : BLs) (b : Blk) (h : LOk s (.b b)) : R_BlockList_take_block_v a (blC a p q r s.D s.c) [.str b.n, .lst (b.P.map .str)] (fun cs d => ∃ q2 r2, cs = blC a p q2 r2 (stL s (.b b)).D (stL s (.b b)).c ∧ d = .bl true)
inductive R_BlockList_take_block_x : Addr → Cs → List D → (Cs → D → Prop) → Prop where
  | mk (a p q r : Addr) (s : BLs) (n : Str) (P : List Str) (ok : CurOk s) (h : nwB s n = false ∨ nameB n = false ∨ ptsB P = false) (hl : P.length ≤ 1000) (sz : n.length ≤ sizeLine ∧ ∀ x ∈ P, x.length ≤ sizeLine) : R_BlockList_take_block_x a (blC a p q r s.D s.c) [.str n, .lst (P.map .str)] (fun _ d => d = .bl false)
inductive R_BlockList_take_device_v : Addr → Cs → List D → (Cs → D → Prop) → Prop where
  | mk (a p q r : Addr) (s : BLs) (v : BDev) (h : LOk s (.d v)) : R_BlockList_take_device_v a (blC a p q r s.D s.c) [D.lst (([v.k, v.g, v.e, v.o] : List Str).map .str), .tup (([v.w, v.l] : List Int).map .int)] (fun cs d => cs = blC a p q r (stL s (.d v)).D (stL s (.d v)).c ∧ d = .bl true)
inductive R_BlockList_take_device_x : Addr → Cs → List D → (Cs → D → Prop) → Prop where
  | mk (a p q r : Addr) (s : BLs) (k g e o : Str) (z : Option (List Int)) (hz : z = none ∨ ∃ w l, z = some [w, l]) (sz : ∀ x ∈ ([g, e, o] : List Str), x.length ≤ sizeLine) (h : s.c = none ∨ usO s.c ≠ [] ∨ z = none ∨ ∃ w l, z = some [w, l] ∧ bdvB ⟨k, g, e, o, w, l⟩ = false) : R_BlockList_take_device_x a (blC a p q r s.D s.c) [.lst (([k, g, e, o] : List Str).map .str), optT z] (fun _ d => d = .bl false)
inductive R_BlockList_take_use_v : Addr → Cs → List D → (Cs → D → Prop) → Prop where
  | mk (a p q r : Addr) (s : BLs) (u : BUse) (h : LOk s (.u u)) : R_BlockList_take_use_v a (blC a p q r s.D s.c) [.str u.n, .tup (u.N.map .str)] (fun cs d => cs = blC a p q r (stL s (.u u)).D (stL s (.u u)).c ∧ d = .bl true)
inductive R_BlockList_take_use_x : Addr → Cs → List D → (Cs → D → Prop) → Prop where
  | mk (a p q r : Addr) (s : BLs) (n : Str) (N : List Str) (h : n ∉ nmsB (libB s.D) ∨ (N.length : Int) ≠ cntB ptB (libB s.D) n ∨ bsuB ⟨n, N⟩ = false) (hl : N.length ≤ 1000) (sz : n.length ≤ sizeLine ∧ ∀ x ∈ N, x.length ≤ sizeLine) : R_BlockList_take_use_x a (blC a p q r s.D s.c) [.str n, .tup (N.map .str)] (fun _ d => d = .bl false)
inductive R_parse_schematic : List D → D → Prop where
  | mk (bs : List Blk) (t : TxS bs) : R_parse_schematic [.str (txS bs)] (schD (libB bs))
inductive R_law_cell : List D → D → Prop where
  | mk (ns : List Int) (k : Int) (h : 0 ≤ k) : R_law_cell [.lst (ns.map .int), .int k] (.int (cellAt ns k))
inductive R_law_draws : List D → D → Prop where
  | mk (c n : Int) (h : 0 ≤ n) (h2 : n ≤ 1000) : R_law_draws [.int c, .int n] (.lst ((draws c n).map .int))
inductive R_law_name : List D → D → Prop where
  | mk (d : Int) (h : 0 ≤ d) : R_law_name [.int d] (.str (nmOf d))
inductive R_law_qbad_integer : List D → D → Prop where
  | mk (d : Int) (h : 0 ≤ d) : R_law_qbad_integer [.int d] (.str (badIw d))
inductive R_law_qbad_name : List D → D → Prop where
  | mk (d : Int) (h : 0 ≤ d) : R_law_qbad_name [.int d] (.str (badAt d))
inductive R_law_qblocks : List D → D → Prop where
  | mk (ns : List Int) (f m : Int) (hf : 0 ≤ f ∧ f ≤ 60) (hm : 0 ≤ m ∧ m ≤ 20) : R_law_qblocks [.lst (ns.map .int), .int f, .int m] (.lst ((qBs ns f m.toNat).map rwB))
inductive R_law_qblock_lines : List D → D → Prop where
  | mk (bs : List Blk) (t : TxS bs) : R_law_qblock_lines [.lst (bs.map rwB)] (.lst (lnT (lnsT bs)))
inductive R_law_line : List D → D → Prop where
  | mk (L : List Str) (k : Int) (h : LXs L k) : R_law_line [.lst (L.map .str)] (.int k)
inductive R_law_wrong_line : List D → D → Prop where
  | mk (d m : Int) (n : Str) (hd : 0 ≤ d) (hm : 0 ≤ m) (hn : n.length ≤ 41) : R_law_wrong_line [.int d, .int m, .str n] (.str (lnW (wAt m n d)))
abbrev R_law := RLaw
inductive RX_parse_schematic : List D → Err → Prop where
  | mk (W : List (List Str)) (k : Int) (h : PXs W k) : RX_parse_schematic [.str (txW W)] (errF "InvalidText" ["line"] [.int k])
def top (i : Nat) : Stmt := PySem.Challenge.pw_reticle_k83_faults_of_written_schematics.main.body.getD i (.Pass ⟨0, 0, 0, 0⟩)
structure Bt (mg : Str → Option Value) : Prop where
  «all» : mg "all" = none
  «enumerate» : mg "enumerate" = none
  «int» : mg "int" = none
  «isinstance» : mg "isinstance" = none
  «len» : mg "len" = none
  «list» : mg "list" = none
  «min» : mg "min" = none
  «range» : mg "range" = none
  «set» : mg "set" = none
  «str» : mg "str" = none
  «sum» : mg "sum" = none
  «tuple» : mg "tuple" = none
structure Kt (K : PySem.W.Frag) (mg : Str → Option Value) : Prop where
  «KINDS» : Cst K mg "KINDS" (.tup [.str "n", .str "p"])
  «MOST_BLOCKS» : Cst K mg "MOST_BLOCKS" (.int 60)
  «MOST_CHARACTERS» : Cst K mg "MOST_CHARACTERS" (.int 12)
  «MOST_DIGITS» : Cst K mg "MOST_DIGITS" (.int 30)
structure Lt (K : PySem.W.Frag) (mg : Str → Option Value) : Prop where
  «Block» : Kl K mg "Block" ["name", "ports", "devices", "uses"]
  «Schematic» : Kl K mg "Schematic" ["_blocks", "_device_counts", "_net_counts", "_use_counts"]
  «BlockList» : Kl K mg "BlockList" ["_completed", "_name", "_ports", "_devices", "_uses"]
structure Xt (K : PySem.W.Frag) (mg : Str → Option Value) : Prop where
  «InvalidText» : Xe K "InvalidText"
  «m1» : Xm K mg "InvalidText" "ReticleError"
  «i1» : Xi K mg "InvalidText" "InvalidText" true
  «f1» : Xf K "InvalidText" ["line"]
section
variable {P : Program} {w : World} {K : PySem.W.Frag} {mg : Str → Option Value} {base : Heap}
abbrev s_E_InvalidText : Stmt := inClass (top 4) 0
def F_E_InvalidText (cc c : Addr) : NdefX.NF := ⟨"__init__", "InvalidText.__init__", defArgs s_E_InvalidText, defBody s_E_InvalidText, defScope s_E_InvalidText, [("__class__", cc)], c⟩
theorem okE_InvalidText {C fI cc c : Addr} (S : SupK P K mg C fI cc c (F_E_InvalidText cc c)) (T : L2.OexC K C) (hf1 : PySem.W.findIn K (.ref C) "line" = some none) {dV kV doc pm ct oc : Value} {ann od : Option Addr} {osl : Array (Option Value)}
    (lk : K.lookup fI = some ⟨oc, od, .func (PySem.W.fnX "__init__" "InvalidText.__init__" (defArgs s_E_InvalidText) (defBody s_E_InvalidText) (defScope s_E_InvalidText) [("__class__", cc)] dV kV doc pm ann (.ref c) ct), osl⟩) :
    FnOk P w K mg base CX0 1 fI (PySem.W.fnX "__init__" "InvalidText.__init__" (defArgs s_E_InvalidText) (defBody s_E_InvalidText) (defScope s_E_InvalidText) [("__class__", cc)] dV kV doc pm ann (.ref c) ct) ["self", "line"] (spE K C ["line"] R_E_InvalidText) := by
  refine fn_okE1 (F := F_E_InvalidText cc c) (N := ["self", "line", "__class__"]) (ps := ["self", "line"]) (k := 0) S T (NdefX.nscope_by (show NdefX.nscB ["self", "line", "__class__"] ["self", "line"] ["__class__"] (defScope s_E_InvalidText) = true by decide +kernel)) rfl (by simp) (fun ds es h => by cases h; rfl) rfl hf1 rfl rfl rfl (fun _ => rfl) (fun _ => rfl) (fun _ => rfl) (fun _ => rfl) (fun _ => rfl) (fun a ds es hR A outer s H E hr => ?_) lk
  rcases hR with ⟨i, hi⟩
  walk_at "en"
  exact ⟨_, _, (ed_fs (fs_cons ed_str (fs_cons (by first | exact fm_s (ed_var 1 rfl) (by rw [sizeLine_eq]; decide +kernel) | exact fm_i (ed_var 1 rfl) (by exact hi.log)) (fs_cons ed_str fs_nil))) (by simp only [sumL_cons, sumL_nil]; have e1 : ("line " : Str).length = 5 := (by decide +kernel); have e2 : (" is wrong" : Str).length = 9 := (by decide +kernel); have e3 := hi.len; unfold stI at e3; rw [e1, e2, sizeLine_eq]; omega)), (ed_var 1 rfl), (ed_var 0 rfl), rfl⟩
abbrev s_is_name : Stmt := top 9
theorem sc_is_name : FnScope ["name", "sign"] ["name"] (defScope s_is_name) := ⟨rfl, rfl, rfl, by decide +kernel, rfl, by decide +kernel, by decide +kernel⟩
theorem ok_is_name {f : Addr} {fd : FuncData} (F : Fun K "is_name" "is_name" s_is_name f fd) (B : Bt mg) (KC : Kt K mg) (KL : Lt K mg) (XF : Xt K mg)  :
    FnOk P w K mg base CX0 1 f fd ["name"] (spR K R_is_name) := by
  refine fn_ok (k := 0) F sc_is_name (fun ds d h => by cases h; rfl) fun ds d hR cdv A outer s H E hr => ?_
  have nd := sc_is_name.nd
  have hu := hr.units
  rcases hR with ⟨x, hx⟩
  walk_at "en"
  refine ws_cons (ws_if (td_tw (tw_or (td_not (td_chain ed_int (ed_callB (id := "len") (by rfl) B.«len» bb_len (ad_cons (ed_var 0 rfl) ad_nil) (bc_lenS hx)) (ed_const KC.«MOST_CHARACTERS» (by rfl)) (by walk_at "c2") (by walk_at "c2"))) (fun hb2 => (tw_or1 (td_not (TD.eq (td_chain ed_str (ed_ixS (c := x.cps.toList.getD 0 0) (ed_var 0 rfl) ed_int hx (at_first hb2)) ed_str (by walk_at "c2") (by walk_at "c2")) (chA _))))))) (fun hc1 => ?_) (fun hc1 => ?_))
  · skip
    have hf := name_no hc1
    refine ws_cons (ws_ret (ED.eq ed_bl ?_) (Or.inl rfl))
    rw [hf]
  · skip
    have hf := name_yes hc1
    refine ws_nil ?_
    refine ws_cons (ws_ret (ED.eq (ed_callB (id := "all") (by rfl) B.«all» bb_all (ad_cons (ed_lst (eo_map2 [("sign", 1)] (x.cps.toList) (fun c => D.str (sgn c)) (chB) (D.bl) rfl nd (blkOk_by (N := ["name", "sign"]) (sc := defScope s_is_name) (by decide +kernel)) (id_str (ed_var 0 rfl)) (rfl) (fun c hxm => ⟨_, by rfl, fun _ _ _ _ _ => ⟨(dg_name 1 nd), tds_nil, (ed_or (ED.eq (ed_chain ed_str (ed_var 1 rfl) ed_str (by walk_at "c2") (by walk_at "c2")) (show _ = (D.bl (loB c)) from by exact congrArg D.bl (chA c))) (fun hb4 => (ed_one (ED.eq (ed_chain ed_str (ed_var 1 rfl) ed_str (by walk_at "c2") (by walk_at "c2")) (show _ = (D.bl (decide (48 ≤ c) && decide (c ≤ 57))) from by exact congrArg D.bl (ch0 c))))))⟩⟩) (by rw [Array.length_toList]; exact hx))) ad_nil) (bc_all rfl)) ?_) (Or.inl rfl))
    rw [hf]
abbrev s_are_different : Stmt := top 13
theorem sc_are_different : FnScope ["names"] ["names"] (defScope s_are_different) := ⟨rfl, rfl, rfl, by decide +kernel, rfl, by decide +kernel, by decide +kernel⟩
theorem ok_are_different {f : Addr} {fd : FuncData} (F : Fun K "are_different" "are_different" s_are_different f fd) (B : Bt mg) (KC : Kt K mg) (KL : Lt K mg) (XF : Xt K mg)  :
    FnOk P w K mg base CX0 1 f fd ["names"] (spR K R_are_different) := by
  refine fn_ok (k := 0) F sc_are_different (fun ds d h => by cases h; rfl) fun ds d hR cdv A outer s H E hr => ?_
  have nd := sc_are_different.nd
  have hu := hr.units
  rcases hR with ⟨xs, hl⟩
  walk_at "en"
  refine ws_cons (ws_ret (ED.eq (ed_cmp (ed_lenSetK (ks := xs.map kS) (by rfl) (by rfl) B.«len» (by rfl) B.«set» (ED.eq (ed_var 0 rfl) (by rw [kS_D])) (by rw [List.length_map]; omega)) (ed_callB (id := "len") (by rfl) B.«len» bb_len (ad_cons (ed_var 0 rfl) ad_nil) (by walk_at "bc")) (by walk_at "c2")) ?_) (Or.inl rfl))
  first | (rw [List.length_map]; done) | (rw [List.length_map]; rfl)
abbrev s_are_ports : Stmt := top 14
theorem sc_are_ports : FnScope ["ports", "port"] ["ports"] (defScope s_are_ports) := ⟨rfl, rfl, rfl, by decide +kernel, rfl, by decide +kernel, by decide +kernel⟩
theorem ok_are_ports {f : Addr} {fd : FuncData} (F : Fun K "are_ports" "are_ports" s_are_ports f fd) (B : Bt mg) (KC : Kt K mg) (KL : Lt K mg) (XF : Xt K mg) (G_are_different : Fn P w K mg base "are_different" 1 R_are_different) (G_is_name : Fn P w K mg base "is_name" 1 R_is_name) :
    FnOk P w K mg base CX0 2 f fd ["ports"] (spR K R_are_ports) := by
  refine fn_ok (k := 1) F sc_are_ports (fun ds d h => by cases h; rfl) fun ds d hR cdv A outer s H E hr => ?_
  have nd := sc_are_ports.nd
  have hu := hr.units
  rcases hR with ⟨xs, hl, sz⟩
  walk_at "en"
  refine ws_cons (ws_ret (ED.eq (ed_and (ed_callB (id := "all") (by rfl) B.«all» bb_all (ad_cons (ed_lst (eo_map2 [("port", 1)] (xs) (D.str) (nameB) (D.bl) rfl nd (blkOk_by (N := ["ports", "port"]) (sc := defScope s_are_ports) (by decide +kernel)) (id_list (ed_var 0 rfl)) (rfl) (fun v hxm => ⟨_, by rfl, fun _ _ _ _ _ => ⟨(dg_name 1 nd), tds_nil, (ed_call G_is_name (hr.mono (by decide)) (by rfl) (ad_cons (ed_var 1 rfl) ad_nil) (by exact .mk _ (sz v hxm)))⟩⟩) (by rw [sizeLine_eq]; omega))) ad_nil) (bc_all rfl)) (fun hb2 => (ed_one (ed_call G_are_different (hr.mono (by decide)) (by rfl) (ad_cons (ed_var 0 rfl) ad_nil) (by exact .mk _ (by assumption)))))) ?_) (Or.inl rfl))
  rfl
abbrev s_is_block_device : Stmt := top 15
theorem sc_is_block_device : FnScope ["device", "kind", "gate", "end", "other", "width", "length", "net"] ["device"] (defScope s_is_block_device) := ⟨rfl, rfl, rfl, by decide +kernel, rfl, by decide +kernel, by decide +kernel⟩
theorem ok_is_block_device {f : Addr} {fd : FuncData} (F : Fun K "is_block_device" "is_block_device" s_is_block_device f fd) (B : Bt mg) (KC : Kt K mg) (KL : Lt K mg) (XF : Xt K mg) (G_is_name : Fn P w K mg base "is_name" 1 R_is_name) :
    FnOk P w K mg base CX0 2 f fd ["device"] (spR K R_is_block_device) := by
  refine fn_ok (k := 1) F sc_is_block_device (fun ds d h => by cases h; rfl) fun ds d hR cdv A outer s H E hr => ?_
  have nd := sc_is_block_device.nd
  have hu := hr.units
  rcases hR with ⟨v, sz⟩
  walk_at "en"
  refine ws_cons (ws_unpack (ed_var 0 rfl) (dg_tup rfl (dgs_cons (dg_name 1 nd) (dgs_cons (dg_name 2 nd) (dgs_cons (dg_name 3 nd) (dgs_cons (dg_name 4 nd) (dgs_cons (dg_name 5 nd) (dgs_cons (dg_name 6 nd) dgs_nil))))))) ?_)
  walk_at "env"
  refine ws_cons (ws_ret (ED.eq (ed_and (ed_cmp (ed_var 1 rfl) (ed_const KC.«KINDS» (by rfl)) (c2_inStr (ys := ["n", "p"]) (.tup _)) (by rfl)) (fun hb4 => (ed_and (ed_callB (id := "all") (by rfl) B.«all» bb_all (ad_cons (ed_lst (eo_map2 [("net", 7)] (v.ns) (D.str) (nameB) (D.bl) rfl nd (blkOk_by (N := ["device", "kind", "gate", "end", "other", "width", "length", "net"]) (sc := defScope s_is_block_device) (by decide +kernel)) (id_tup (ed_tup (ad_cons (ed_var 2 rfl) (ad_cons (ed_var 3 rfl) (ad_cons (ed_var 4 rfl) ad_nil))))) (by rfl) (fun x hxm => ⟨_, by rfl, fun _ _ _ _ _ => ⟨(dg_name 7 nd), tds_nil, (ed_call G_is_name (hr.mono (by decide)) (by rfl) (ad_cons (ed_var 7 rfl) ad_nil) (by exact .mk _ (sz x hxm)))⟩⟩) (by show 3 ≤ _; rw [sizeLine_eq]; omega))) ad_nil) (bc_all rfl)) (fun hb3 => (ed_and (ed_cmp (ed_var 5 rfl) ed_int (by walk_at "c2")) (fun hb1 => (ed_one (ed_cmp (ed_var 6 rfl) ed_int (by walk_at "c2"))))))))) ?_) (Or.inl rfl))
  rfl
abbrev s_is_use : Stmt := top 16
theorem sc_is_use : FnScope ["use", "name", "nets", "net"] ["use"] (defScope s_is_use) := ⟨rfl, rfl, rfl, by decide +kernel, rfl, by decide +kernel, by decide +kernel⟩
theorem ok_is_use {f : Addr} {fd : FuncData} (F : Fun K "is_use" "is_use" s_is_use f fd) (B : Bt mg) (KC : Kt K mg) (KL : Lt K mg) (XF : Xt K mg) (G_is_name : Fn P w K mg base "is_name" 1 R_is_name) :
    FnOk P w K mg base CX0 2 f fd ["use"] (spR K R_is_use) := by
  refine fn_ok (k := 1) F sc_is_use (fun ds d h => by cases h; rfl) fun ds d hR cdv A outer s H E hr => ?_
  have nd := sc_is_use.nd
  have hu := hr.units
  rcases hR with ⟨u, hl, sz⟩
  walk_at "en"
  refine ws_cons (ws_unpack (ed_var 0 rfl) (dg_tup rfl (dgs_cons (dg_name 1 nd) (dgs_cons (dg_name 2 nd) dgs_nil))) ?_)
  walk_at "env"
  refine ws_cons (ws_ret (ED.eq (ed_and (ed_call G_is_name (hr.mono (by decide)) (by rfl) (ad_cons (ed_var 1 rfl) ad_nil) (by first | exact .mk _ sz.1 | exact .mk _ (sz.2 x hxm))) (fun hb2 => (ed_one (ed_callB (id := "all") (by rfl) B.«all» bb_all (ad_cons (ed_lst (eo_map2 [("net", 3)] (u.N) (D.str) (nameB) (D.bl) rfl nd (blkOk_by (N := ["use", "name", "nets", "net"]) (sc := defScope s_is_use) (by decide +kernel)) (id_tup (ed_var 2 rfl)) (rfl) (fun x hxm => ⟨_, by rfl, fun _ _ _ _ _ => ⟨(dg_name 3 nd), tds_nil, (ed_call G_is_name (hr.mono (by decide)) (by rfl) (ad_cons (ed_var 3 rfl) ad_nil) (by first | exact .mk _ sz.1 | exact .mk _ (sz.2 x hxm)))⟩⟩) (by rw [sizeLine_eq]; omega))) ad_nil) (bc_all rfl))))) ?_) (Or.inl rfl))
  rfl
abbrev s_Block_init : Stmt := inClass (top 17) 0
theorem sc_Block_init : FnScope ["self", "name", "ports", "devices", "uses", "device", "use"] ["self", "name", "ports", "devices", "uses"] (defScope s_Block_init) := ⟨rfl, rfl, rfl, by decide +kernel, rfl, by decide +kernel, by decide +kernel⟩
theorem ok_Block_init {f : Addr} {fd : FuncData} (F : Fun K "__init__" "Block.__init__" s_Block_init f fd) (B : Bt mg) (KC : Kt K mg) (KL : Lt K mg) (XF : Xt K mg) (G_are_ports : Fn P w K mg base "are_ports" 2 R_are_ports) (G_is_block_device : Fn P w K mg base "is_block_device" 2 R_is_block_device) (G_is_name : Fn P w K mg base "is_name" 1 R_is_name) (G_is_use : Fn P w K mg base "is_use" 2 R_is_use) :
    FnOk P w K mg base CX0 3 f fd ["self", "name", "ports", "devices", "uses"] (spI K "Block" R_Block_init) := by
  refine fn_okI (k := 2) F sc_Block_init (fun ds ns es h => by cases h; rfl) fun a0 ds ns es hR cdv A outer s H E hr => ?_
  have nd := sc_Block_init.nd
  have hu := hr.units
  rcases hR with ⟨b, ok⟩
  have few := ok.few
  walk_at "en"
  refine ws_cons (ws_if (td_not (td_truth (ed_call G_is_name (hr.mono (by decide)) (by rfl) (ad_cons (ed_var 1 rfl) ad_nil) (by exact .mk _ (nm_size ok.n))) rfl)) (fun hc1 => ?_) (fun hc1 => ?_))
  · skip
    exfalso; rw [ok.n] at hc1; cases hc1
  · skip
    clear hc1
    refine ws_nil ?_
    refine ws_cons (ws_if (td_not (td_truth (ed_call G_are_ports (hr.mono (by decide)) (by rfl) (ad_cons (ed_var 2 rfl) ad_nil) (by exact .mk _ ok.d (by omega) ok.p)) rfl)) (fun hc2 => ?_) (fun hc2 => ?_))
    · skip
      exfalso; simp at hc2
    · skip
      clear hc2
      refine ws_nil ?_
      refine ws_cons (ws_if (td_not (td_truth (ed_callB (id := "all") (by rfl) B.«all» bb_all (ad_cons (ed_lst (eo_map2 [("device", 5)] (b.V) (BDev.d) (fun _ => true) (D.bl) rfl nd (blkOk_by (N := ["self", "name", "ports", "devices", "uses", "device", "use"]) (sc := defScope s_Block_init) (by decide +kernel)) (id_list (ed_var 3 rfl)) (rfl) (fun v hxm => ⟨_, by rfl, fun _ _ _ _ _ => ⟨(dg_name 5 nd), tds_nil, (ed_call G_is_block_device (hr.mono (by decide)) (by rfl) (ad_cons (ed_var 5 rfl) ad_nil) (by exact .mk _ (ok.v v hxm)))⟩⟩) (by rw [sizeLine_eq]; omega))) ad_nil) (bc_all rfl)) rfl)) (fun hc3 => ?_) (fun hc3 => ?_))
      · skip
        exfalso; simp at hc3
      · skip
        clear hc3
        refine ws_nil ?_
        refine ws_cons (ws_if (td_not (td_truth (ed_callB (id := "all") (by rfl) B.«all» bb_all (ad_cons (ed_lst (eo_map2 [("use", 6)] (b.U) (BUse.d) (fun _ => true) (D.bl) rfl nd (blkOk_by (N := ["self", "name", "ports", "devices", "uses", "device", "use"]) (sc := defScope s_Block_init) (by decide +kernel)) (id_list (ed_var 4 rfl)) (rfl) (fun u hxm => ⟨_, by rfl, fun _ _ _ _ _ => ⟨(dg_name 6 nd), tds_nil, (ed_call G_is_use (hr.mono (by decide)) (by rfl) (ad_cons (ed_var 6 rfl) ad_nil) (by exact .mk _ (ok.fu u hxm) (ok.u u hxm)))⟩⟩) (by rw [sizeLine_eq]; omega))) ad_nil) (bc_all rfl)) rfl)) (fun hc5 => ?_) (fun hc5 => ?_))
        · skip
          exfalso; simp at hc5
        · skip
          clear hc5
          refine ws_nil ?_
          refine ws_cons (ws_setF 0 KL.«Block» rfl (ed_var 1 rfl) ?_)
          simp only [List.cons_append, List.nil_append]
          walk_at "env"
          refine ws_cons (ws_setF 0 KL.«Block» rfl (ed_callT (T := "tuple") (by rfl) B.«tuple» bb_tuple (ad_cons (ed_var 2 rfl) ad_nil) ((bc_tupSeq (.lst _)))) ?_)
          simp only [List.cons_append, List.nil_append]
          walk_at "env"
          refine ws_cons (ws_setF 0 KL.«Block» rfl (ed_callT (T := "tuple") (by rfl) B.«tuple» bb_tuple (ad_cons (ed_var 3 rfl) ad_nil) ((bc_tupSeq (.lst _)))) ?_)
          simp only [List.cons_append, List.nil_append]
          walk_at "env"
          refine ws_cons (ws_setF 0 KL.«Block» rfl (ed_callT (T := "tuple") (by rfl) B.«tuple» bb_tuple (ad_cons (ed_var 4 rfl) ad_nil) ((bc_tupSeq (.lst _)))) ?_)
          simp only [List.cons_append, List.nil_append]
          walk_at "env"
          refine ws_nil ?_
          exact ⟨_, _, rfl, rfl, fun _ _ h => h⟩
abbrev s_own_nets : Stmt := top 18
theorem sc_own_nets : FnScope ["block", "names", "device", "_", "nets", "name"] ["block"] (defScope s_own_nets) := ⟨rfl, rfl, rfl, by decide +kernel, rfl, by decide +kernel, by decide +kernel⟩
theorem ok_own_nets {f : Addr} {fd : FuncData} (F : Fun K "own_nets" "own_nets" s_own_nets f fd) (B : Bt mg) (KC : Kt K mg) (KL : Lt K mg) (XF : Xt K mg)  :
    FnOk P w K mg base CX0 1 f fd ["block"] (spR K R_own_nets) := by
  refine fn_ok (k := 0) F sc_own_nets (fun ds d h => by cases h; rfl) fun ds d hR cdv A outer s H E hr => ?_
  have nd := sc_own_nets.nd
  have hu := hr.units
  rcases hR with ⟨b, ok⟩
  have few := ok.few
  walk_at "en"
  refine ws_cons (ws_setO 1 nd (eo_callT (T := "list") (by rfl) B.«list» bb_list (ad_cons (ed_fld 1 KL.«Block» (ed_var 0 rfl)) ad_nil) (by walk_at "bo")) ?_)
  walk_at "env"
  refine ws_cons (ws_forU (b.V) (BDev.d) rfl (id_tup (ed_fld 2 KL.«Block» (ed_var 0 rfl))) (by rfl) (U := Sl) (fun i u => [(1, .ow (.lst ((b.P ++ ((b.V.take i).map BDev.ns).flatten).map .str))), (2, u)]) (fun r => (r.getD 2 .no)) (fun _ => True) (by simp; rfl) (True.intro) ?_ ?_)
  · intro i0 v u0 hx0 hP0
    refine ⟨_, _, (dg_name 2 nd), ?_⟩
    walk_at "env"
    refine ws_cons (ws_extendT 1 rfl (zs := v.ns.map D.str) (ED.eq (ed_sliceT (ed_var 2 rfl) (some_part ed_int) (some_part ed_int)) (show _ = D.tup (v.ns.map D.str) from by rfl)) (by have := dev_len ok i0; have e3 : v.ns.length = 3 := rfl; simp only [List.length_map, List.length_append, e3]; rw [sizeLine_eq]; omega) ?_ (fun h => ps_expr (pe_bm PySem.F.plainAttrs_list PySem.F.slot_list_extend PySem.F.type_list_extend mt_extT (pv 1) h)))
    walk_at "env"
    refine ws_nil ?_
    refine ⟨?_, True.intro⟩
    rw [flat_snoc hx0, ← List.append_assoc, List.map_append]
    rfl
  · intro u0 hP0
    walk_at "env"
    rw [List.take_length]
    refine ws_cons (ws_forU (b.U) (BUse.d) rfl (id_tup (ed_fld 3 KL.«Block» (ed_var 0 rfl))) (by rfl) (U := Sl × Sl) (fun i u => [(1, .ow (.lst ((b.P ++ ((b.V.map BDev.ns).flatten ++ ((b.U.take i).map (·.N)).flatten)).map .str))), (3, u.1), (4, u.2)]) (fun r => (r.getD 3 .no, r.getD 4 .no)) (fun _ => True) (by simp; rfl) (True.intro) ?_ ?_)
    · intro i1 u u1 hx1 hP1
      have hum := List.mem_of_getElem? hx1
      refine ⟨_, _, (dg_tup rfl (dgs_cons (dg_name 3 nd) (dgs_cons (dg_name 4 nd) dgs_nil))), ?_⟩
      walk_at "env"
      refine ws_cons (ws_extendT 1 rfl (zs := u.N.map D.str) (ed_var 4 rfl) (by have h1 := use_len ok i1; have h2 := dev_len ok b.V.length; rw [List.take_length] at h2; have := ok.fu u hum; simp only [List.length_map, List.length_append]; rw [sizeLine_eq]; omega) ?_ (fun h => ps_expr (pe_bm PySem.F.plainAttrs_list PySem.F.slot_list_extend PySem.F.type_list_extend mt_extT (pv 1) h)))
      walk_at "env"
      refine ws_nil ?_
      refine ⟨?_, True.intro⟩
      rw [flat_snoc hx1, ← List.append_assoc, ← List.append_assoc, List.map_append, List.append_assoc]
      rfl
    · intro u1 hP1
      walk_at "env"
      rw [List.take_length]
      refine ws_share 1 rfl ?_
      walk_at "env"
      refine ws_cons (ws_ret (ED.eq (ED.eq (ed_own (eo_callT (T := "list") (by rfl) B.«list» bb_list (ad_cons (ed_own (eo_dcT [("name", 5)] (b.P ++ latB b) D.str kS rfl nd (blkOk_by (N := ["block", "names", "device", "_", "nets", "name"]) (sc := defScope s_own_nets) (by decide +kernel)) (id_list (ed_var 1 rfl)) (by rfl) (fun x hxm => ⟨_, by rfl, fun _ _ _ _ _ => ⟨dg_name 5 nd, ed_var 5 rfl, ed_bl⟩⟩) (by have := lat_len ok; rw [List.length_append, sizeLine_eq]; omega))) ad_nil) (bo_listDk rfl))) (show D.lst _ = D.lst ((ownB b).map .str) by rw [own_ddK ok.d, kS_D])) ?_) (Or.inl rfl))
      rfl
abbrev s_Schematic_init : Stmt := inClass (top 19) 0
theorem sc_Schematic_init : FnScope ["self", "blocks", "block"] ["self", "blocks"] (defScope s_Schematic_init) := ⟨rfl, rfl, rfl, by decide +kernel, rfl, by decide +kernel, by decide +kernel⟩
theorem ok_Schematic_init {f : Addr} {fd : FuncData} (F : Fun K "__init__" "Schematic.__init__" s_Schematic_init f fd) (B : Bt mg) (KC : Kt K mg) (KL : Lt K mg) (XF : Xt K mg) (G_Schematic_append_block : FnML P w K mg base "Schematic" "_append_block" 2 R_Schematic_append_block) :
    FnOk P w K mg base CX0 3 f fd ["self", "blocks"] (spI K "Schematic" R_Schematic_init) := by
  refine fn_okI (k := 2) F sc_Schematic_init (fun ds ns es h => by cases h; rfl) fun a0 ds ns es hR cdv A outer s H E hr => ?_
  have nd := sc_Schematic_init.nd
  have hu := hr.units
  rcases hR with ⟨bs, ok, hcl⟩
  walk_at "en"
  refine ws_cons (ws_if (td_cmp (ed_callB (id := "len") (by rfl) B.«len» bb_len (ad_cons (ed_var 1 rfl) ad_nil) (by walk_at "bc")) (ed_const KC.«MOST_BLOCKS» (by rfl)) (by walk_at "c2")) (fun hc1 => ?_) (fun hc1 => ?_))
  · skip
    exfalso; have h := of_decide_eq_true hc1; rw [List.length_map] at h; omega
  · skip
    clear hc1
    refine ws_nil ?_
    refine ws_cons (ws_setFO 0 KL.«Schematic» rfl eo_dk fun q1 => ?_)
    simp only [List.cons_append, List.nil_append]
    walk_at "env"
    refine ws_cons (ws_setFO 0 KL.«Schematic» rfl eo_dk fun q2 => ?_)
    simp only [List.cons_append, List.nil_append]
    walk_at "env"
    refine ws_cons (ws_setFO 0 KL.«Schematic» rfl eo_dk fun q3 => ?_)
    simp only [List.cons_append, List.nil_append]
    walk_at "env"
    refine ws_cons (ws_setFO 0 KL.«Schematic» rfl eo_dk fun q4 => ?_)
    simp only [List.cons_append, List.nil_append]
    walk_at "env"
    refine ws_cons (ws_forU (bs) (blkD) rfl (id_list (ed_var 1 rfl)) (by rfl) (U := Sl) (fun i u => [(0, .ox (schC a0 q1 q2 q3 q4 (libB (bs.take i))) (.ad a0)), (2, u)]) (fun r => (r.getD 2 .no)) (fun _ => True) (rfl) (True.intro) ?_ ?_)
    · intro i0 x u0 hx0 hP0
      refine ⟨_, _, (dg_name 2 nd), ?_⟩
      walk_at "env"
      refine ws_cons (ws_exprP (ep_methW 0 G_Schematic_append_block (hr.mono (by decide)) rfl (List.mem_iff_getElem?.mpr ⟨0, rfl⟩) (ed_varX 0 rfl) (ad_cons (ed_var 2 rfl) ad_nil) (.mk a0 q1 q2 q3 q4 _ x (ok i0 x hx0).1 (ok i0 x hx0).2 (by rw [libB_len, List.length_take]; omega))) ?_)
      rintro _ _ ⟨_, ⟨rfl, rfl⟩, rfl⟩
      walk_at "env"
      refine ws_nil ?_
      refine ⟨?_, True.intro⟩
      rw [List.take_add_one, hx0]
      simp only [Option.toList]
      rw [libB_snoc]
      rfl
    · intro u0 hP0
      walk_at "env"
      rw [List.take_length]
      refine ws_shareF 0 0 rfl rfl ?_
      walk_at "env"
      refine ws_shareF 0 1 rfl rfl ?_
      walk_at "env"
      refine ws_shareF 0 2 rfl rfl ?_
      walk_at "env"
      refine ws_shareF 0 3 rfl rfl ?_
      walk_at "env"
      refine ws_nil ?_
      exact ⟨_, _, rfl, rfl, fun _ _ h => h⟩
abbrev s_Schematic_append_block : Stmt := inClass (top 19) 1
theorem sc_Schematic_append_block : FnScope ["self", "block", "name", "nets", "used", "new_nets", "_"] ["self", "block"] (defScope s_Schematic_append_block) := ⟨rfl, rfl, rfl, by decide +kernel, rfl, by decide +kernel, by decide +kernel⟩
theorem ok_Schematic_append_block {f : Addr} {fd : FuncData} (F : Fun K "_append_block" "Schematic._append_block" s_Schematic_append_block f fd) (B : Bt mg) (KC : Kt K mg) (KL : Lt K mg) (XF : Xt K mg) (G_own_nets : Fn P w K mg base "own_nets" 1 R_own_nets) :
    FnOk P w K mg base CX0 2 f fd ["self", "block"] (spL K R_Schematic_append_block) := by
  refine fn_okL (k := 1) F sc_Schematic_append_block (fun a cs ds Ψ h => by cases h; rfl) fun a0 cs0 ds Ψ hR cdv A outer s H E hr => ?_
  have nd := sc_Schematic_append_block.nd
  have hu := hr.units
  rcases hR with ⟨p, q, s, t, R, b, can, ok, hRl⟩
  have few := ok.few
  walk_at "en"
  refine ws_cons (ws_if (td_show 0 (schD R) rfl (fun _ _ v h r => sch_show v h r) (td_cmp (ed_fld 0 KL.«Block» (ed_var 1 rfl)) (ed_fld 0 KL.«Schematic» (ed_var 0 rfl)) (c2_inDk hu (k0 := .inr b.n) rfl) (by rfl))) (fun hc1 => ?_) (fun hc1 => ?_))
  · skip
    exact absurd (has_keyB.mp hc1) can.new
  · skip
    clear hc1
    refine ws_nil ?_
    refine ws_cons (ws_forU (b.U) (BUse.d) rfl (id_tup (ed_fld 3 KL.«Block» (ed_var 1 rfl))) (by rfl) (U := Sl × Sl) (fun i u => [(2, u.1), (3, u.2)]) (fun r => (r.getD 2 .no, r.getD 3 .no)) (fun _ => True) (rfl) (True.intro) ?_ ?_)
    · intro i0 u u0 hx0 hP0
      have hold := can.old u (List.mem_of_getElem? hx0)
      have hpt := can.pt u (List.mem_of_getElem? hx0)
      refine ⟨_, _, (dg_tup rfl (dgs_cons (dg_name 2 nd) (dgs_cons (dg_name 3 nd) dgs_nil))), ?_⟩
      walk_at "env"
      refine ws_cons (ws_if (td_show 0 (schD R) rfl (fun _ _ v h r => sch_show v h r) (td_cmp (ed_var 2 rfl) (ed_fld 0 KL.«Schematic» (ed_var 0 rfl)) (c2_notInDk hu (k0 := .inr u.n) rfl) (by rfl))) (fun hc2 => ?_) (fun hc2 => ?_))
      · skip
        exfalso; rw [has_keyB.mpr hold] at hc2; cases hc2
      · skip
        clear hc2
        refine ws_nil ?_
        refine ws_cons (ws_if (td_show 0 (schD R) rfl (fun _ _ v h r => sch_show v h r) (td_cmp (ed_callB (id := "len") (by rfl) B.«len» bb_len (ad_cons (ed_var 3 rfl) ad_nil) (by walk_at "bc")) (ED.eq (ed_callB (id := "len") (by rfl) B.«len» bb_len (ad_cons (ed_fld 1 KL.«Block» (ed_dix hu (ed_fld 0 KL.«Schematic» (ed_var 0 rfl)) (ed_var 2 rfl) (k0 := .inr u.n) (lkB_at (g := fun x => blkD x.b) hold))) ad_nil) (by walk_at "bc")) (show _ = (D.int (cntB ptB R u.n)) from by rw [cntB_at' hold, List.length_map]; rfl)) (by walk_at "c2"))) (fun hc3 => ?_) (fun hc3 => ?_))
        · skip
          exfalso; rw [← hpt, List.length_map] at hc3; simp at hc3
        · skip
          clear hc3
          refine ws_nil ?_
          refine ws_nil ?_
          exact ⟨rfl, True.intro⟩
    · intro u0 hP0
      walk_at "env"
      refine ws_cons (ws_setMap2 4 [("name", 2), ("_", 6)] (b.U) (BUse.d) (fun u : BUse => u.n) (D.str) rfl nd (blkOk_by (N := ["self", "block", "name", "nets", "used", "new_nets", "_"]) (sc := defScope s_Schematic_append_block) (by decide +kernel)) (id_tup (ed_fld 3 KL.«Block» (ed_var 1 rfl))) (rfl) (fun u hxm => ⟨_, by rfl, fun _ _ _ _ _ => ⟨(dg_tup rfl (dgs_cons (dg_name 2 nd) (dgs_cons (dg_name 6 nd) dgs_nil))), tds_nil, (ed_var 2 rfl)⟩⟩) (by rw [sizeLine_eq]; omega) ?_)
      refine ws_share 4 rfl ?_
      walk_at "env"
      unfold schC
      refine ws_cons (ws_dputI 0 2 (k0 := .inr b.n) hu rfl rfl (ed_fldC 0 1 KL.«Schematic» rfl (List.mem_iff_getElem?.mpr ⟨0, rfl⟩) (ed_varX 0 rfl)) (ed_fld 0 KL.«Block» (ed_var 1 rfl)) (ed_show 0 _ rfl (fun _ _ v h r => sch_show v h r) (ed_bin (ed_callB (id := "len") (by rfl) B.«len» bb_len (ad_cons (ed_fld 2 KL.«Block» (ed_var 1 rfl)) ad_nil) (by walk_at "bc")) (ed_callB (id := "sum") (by rfl) B.«sum» bb_sum (ad_cons (ed_lst (eo_map2 [("name", 2)] (b.U) (fun u : BUse => D.str u.n) (fun u : BUse => cntB SRow.dc R u.n) (D.int) rfl nd (blkOk_by (N := ["self", "block", "name", "nets", "used", "new_nets", "_"]) (sc := defScope s_Schematic_append_block) (by decide +kernel)) (id_list (ed_var 4 rfl)) (by rw [List.map_map]; rfl) (fun u hxm => by have hold := can.old u hxm; exact ⟨_, by rfl, fun _ _ _ _ _ => ⟨(dg_name 2 nd), tds_nil, (ed_dix hu (ed_fld 1 KL.«Schematic» (ed_var 0 rfl)) (ed_var 2 rfl) (k0 := .inr u.n) (lkB_cnt hold))⟩⟩) (by rw [sizeLine_eq]; omega))) ad_nil) (bc_sum rfl)) (by walk_at "b2"))) (fun h => can.new (mem_keyB.mp h)) (by rw [keyB_len, sizeLine_eq]; omega) ?_)
      walk_at "env"
      refine ws_cons (ws_dputI 0 4 (k0 := .inr b.n) hu rfl rfl (ed_fldC 0 3 KL.«Schematic» rfl (List.mem_iff_getElem?.mpr ⟨0, rfl⟩) (ed_varX 0 rfl)) (ed_fld 0 KL.«Block» (ed_var 1 rfl)) (ed_show 0 _ rfl (fun _ _ v h r => sch_show v h r) (ed_bin (ed_callB (id := "len") (by rfl) B.«len» bb_len (ad_cons (ed_var 4 rfl) ad_nil) (by walk_at "bc")) (ed_callB (id := "sum") (by rfl) B.«sum» bb_sum (ad_cons (ed_lst (eo_map2 [("name", 2)] (b.U) (fun u : BUse => D.str u.n) (fun u : BUse => cntB SRow.uc R u.n) (D.int) rfl nd (blkOk_by (N := ["self", "block", "name", "nets", "used", "new_nets", "_"]) (sc := defScope s_Schematic_append_block) (by decide +kernel)) (id_list (ed_var 4 rfl)) (by rw [List.map_map]; rfl) (fun u hxm => by have hold := can.old u hxm; exact ⟨_, by rfl, fun _ _ _ _ _ => ⟨(dg_name 2 nd), tds_nil, (ed_dix hu (ed_fld 3 KL.«Schematic» (ed_var 0 rfl)) (ed_var 2 rfl) (k0 := .inr u.n) (lkB_cnt hold))⟩⟩) (by rw [sizeLine_eq]; omega))) ad_nil) (bc_sum rfl)) (by walk_at "b2"))) (fun h => can.new (mem_keyB.mp h)) (by rw [keyB_len, sizeLine_eq]; omega) ?_)
      walk_at "env"
      refine ws_cons (ws_setMap2S 0 _ rfl (fun _ _ v h r => sch_show v h r) 5 [("name", 2)] (b.U) (fun u : BUse => D.str u.n) (fun u : BUse => cntB SRow.nc R u.n - cntB ptB R u.n) (D.int) rfl nd (blkOk_by (N := ["self", "block", "name", "nets", "used", "new_nets", "_"]) (sc := defScope s_Schematic_append_block) (by decide +kernel)) (id_list (ed_var 4 rfl)) (by rw [List.map_map]; rfl) (fun u hxm => by have hold := can.old u hxm; exact ⟨_, by rfl, fun _ _ _ _ _ => ⟨(dg_name 2 nd), tds_nil, (ed_bin (ed_dix hu (ed_fld 2 KL.«Schematic» (ed_var 0 rfl)) (ed_var 2 rfl) (k0 := .inr u.n) (lkB_cnt hold)) (ED.eq (ed_callB (id := "len") (by rfl) B.«len» bb_len (ad_cons (ed_fld 1 KL.«Block» (ed_dix hu (ed_fld 0 KL.«Schematic» (ed_var 0 rfl)) (ed_var 2 rfl) (k0 := .inr u.n) (lkB_at (g := fun x => blkD x.b) hold))) ad_nil) (by walk_at "bc")) (show _ = (D.int (cntB ptB R u.n)) from by rw [cntB_at' hold, List.length_map]; rfl)) (by walk_at "b2"))⟩⟩) (by rw [sizeLine_eq]; omega) ?_)
      refine ws_share 5 rfl ?_
      walk_at "env"
      refine ws_cons (ws_dputI 0 3 (k0 := .inr b.n) hu rfl rfl (ed_fldC 0 2 KL.«Schematic» rfl (List.mem_iff_getElem?.mpr ⟨0, rfl⟩) (ed_varX 0 rfl)) (ed_fld 0 KL.«Block» (ed_var 1 rfl)) (ED.eq (ed_bin (ed_callB (id := "len") (by rfl) B.«len» bb_len (ad_cons (ed_call G_own_nets (hr.mono (by decide)) (by rfl) (ad_cons (ed_var 1 rfl) ad_nil) (by exact .mk _ ok)) ad_nil) (by walk_at "bc")) (ed_callB (id := "sum") (by rfl) B.«sum» bb_sum (ad_cons (ed_var 5 rfl) ad_nil) (bc_sum rfl)) (by walk_at "b2")) (show _ = (D.int (newB R b).nc) from by rw [List.length_map]; rfl)) (fun h => can.new (mem_keyB.mp h)) (by rw [keyB_len, sizeLine_eq]; omega) ?_)
      walk_at "env"
      refine ws_cons (ws_dputI 0 1 (k0 := .inr b.n) hu rfl rfl (ed_fldC 0 0 KL.«Schematic» rfl (List.mem_iff_getElem?.mpr ⟨0, rfl⟩) (ed_varX 0 rfl)) (ed_fld 0 KL.«Block» (ed_var 1 rfl)) (ed_var 1 rfl) (fun h => can.new (mem_keyB.mp h)) (by rw [keyB_len, sizeLine_eq]; omega) ?_)
      walk_at "env"
      refine ws_nil ?_
      refine Or.inr ⟨_, _, _, rfl, rfl, ?_⟩
      constructor
      · simp [schC, stepB, keyB, newB]
      · first | rfl | trivial
abbrev s_Schematic_block : Stmt := inClass (top 19) 3
theorem sc_Schematic_block : FnScope ["self", "name"] ["self", "name"] (defScope s_Schematic_block) := ⟨rfl, rfl, rfl, by decide +kernel, rfl, by decide +kernel, by decide +kernel⟩
theorem ok_Schematic_block {f : Addr} {fd : FuncData} (F : Fun K "block" "Schematic.block" s_Schematic_block f fd) (B : Bt mg) (KC : Kt K mg) (KL : Lt K mg) (XF : Xt K mg) (G_Schematic_known : FnM P w K mg base "Schematic" "_known" 1 R_Schematic_known) :
    FnOk P w K mg base CX0 2 f fd ["self", "name"] (spR K R_Schematic_block) := by
  refine fn_ok (k := 1) F sc_Schematic_block (fun ds d h => by cases h; rfl) fun ds d hR cdv A outer s H E hr => ?_
  have nd := sc_Schematic_block.nd
  have hu := hr.units
  rcases hR with ⟨R, n, hn⟩
  walk_at "en"
  refine ws_cons (ws_ret (ED.eq (ed_meth G_Schematic_known (hr.mono (by decide)) (ed_var 0 rfl) (ad_cons (ed_fld 0 KL.«Schematic» (ed_var 0 rfl)) (ad_cons (ed_var 1 rfl) ad_nil)) (by exact .mk _ _ _ _ _ (lkB_at (g := fun x => blkD x.b) hn))) ?_) (Or.inl rfl))
  rfl
abbrev s_Schematic_known : Stmt := inClass (top 19) 7
theorem sc_Schematic_known : FnScope ["self", "counts", "name"] ["self", "counts", "name"] (defScope s_Schematic_known) := ⟨rfl, rfl, rfl, by decide +kernel, rfl, by decide +kernel, by decide +kernel⟩
theorem ok_Schematic_known {f : Addr} {fd : FuncData} (F : Fun K "_known" "Schematic._known" s_Schematic_known f fd) (B : Bt mg) (KC : Kt K mg) (KL : Lt K mg) (XF : Xt K mg)  :
    FnOk P w K mg base CX0 1 f fd ["self", "counts", "name"] (spR K R_Schematic_known) := by
  refine fn_ok (k := 0) F sc_Schematic_known (fun ds d h => by cases h; rfl) fun ds d hR cdv A outer s H E hr => ?_
  have nd := sc_Schematic_known.nd
  have hu := hr.units
  rcases hR with ⟨fd, ks, es, n, d, hlk⟩
  walk_at "en"
  refine ws_cons (ws_if (td_cmp (ed_var 2 rfl) (ed_var 1 rfl) (c2_notInDk hu (k0 := .inr n) rfl) (by rfl)) (fun hc1 => ?_) (fun hc1 => ?_))
  · skip
    exfalso; rw [lookK_has hlk] at hc1; cases hc1
  · skip
    clear hc1
    refine ws_nil ?_
    refine ws_cons (ws_ret (ED.eq (ed_dix hu (ed_var 1 rfl) (ed_var 2 rfl) (k0 := .inr n) hlk) ?_) (Or.inl rfl))
    rfl
abbrev s_is_integer : Stmt := top 22
theorem sc_is_integer : FnScope ["word", "digits"] ["word"] (defScope s_is_integer) := ⟨rfl, rfl, rfl, by decide +kernel, rfl, by decide +kernel, by decide +kernel⟩
theorem ok_is_integer {f : Addr} {fd : FuncData} (F : Fun K "is_integer" "is_integer" s_is_integer f fd) (B : Bt mg) (KC : Kt K mg) (KL : Lt K mg) (XF : Xt K mg)  :
    FnOk P w K mg base CX0 1 f fd ["word"] (spR K R_is_integer) := by
  refine fn_ok (k := 0) F sc_is_integer (fun ds d h => by cases h; rfl) fun ds d hR cdv A outer s H E hr => ?_
  have nd := sc_is_integer.nd
  have hu := hr.units
  rcases hR with ⟨w, hl⟩
  have hgl := dgW_len w
  walk_at "en"
  refine ws_cons (ws_set 1 nd (ED.eq (ed_ifv (td_truth (ed_starts (ed_var 0 rfl) ed_str) rfl) (fun hc1 => (ed_sliceS (ed_var 0 rfl) (by rw [sizeLine_eq]; omega) (some_part ed_int) no_part)) (fun hc1 => (ed_var 0 rfl))) (show _ = (D.str (dgW w)) from by exact dgW_if w)) ?_)
  walk_at "env"
  refine ws_cons (ws_if (td_tw (tw_or (td_not (td_truth (ed_isdigit (ed_var 1 rfl)) rfl)) (fun hb3 => (tw_or1 (td_cmp (ed_callB (id := "len") (by rfl) B.«len» bb_len (ad_cons (ed_var 1 rfl) ad_nil) (bc_lenS (by rw [sizeLine_eq]; omega))) (ed_const KC.«MOST_DIGITS» (by rfl)) (by walk_at "c2")))))) (fun hc2 => ?_) (fun hc2 => ?_))
  · skip
    have hno : (Txt.isdigit (dgW w) && decide ((dgW w).length ≤ 30)) = false := by
      cases e : Txt.isdigit (dgW w) with
      | false => rfl
      | true => rw [e] at hc2; simp at hc2; simp; omega
    refine ws_cons (ws_ret (ED.eq ed_bl ?_) (Or.inl rfl))
    first | (rw [isI_no hno]) | (rw [isI_if hyes]; rfl)
  · skip
    have hi9 : Txt.isdigit (dgW w) = true ∧ (dgW w).length ≤ 30 := by
      cases e : Txt.isdigit (dgW w) with
      | false => rw [e] at hc2; simp at hc2
      | true => rw [e] at hc2; simp at hc2; exact ⟨rfl, by omega⟩
    have hyes : (Txt.isdigit (dgW w) && decide ((dgW w).length ≤ 30)) = true := by rw [hi9.1, decide_eq_true hi9.2]; rfl
    refine ws_nil ?_
    refine ws_cons (ws_ret (ED.eq (ed_or (ed_cmp (ed_var 0 rfl) ed_str (by walk_at "c2")) (fun hb4 => (ed_one (ed_cmp (ed_ixS (c := (dgW w).cps.toList.getD 0 0) (ed_var 1 rfl) ed_int (by rw [sizeLine_eq]; omega) (at_hd hi9.1)) ed_str (by walk_at "c2"))))) ?_) (Or.inl rfl))
    first | (rw [isI_no hno]) | (rw [isI_if hyes]; rfl)
abbrev s_read_integers : Stmt := top 23
theorem sc_read_integers : FnScope ["words", "word"] ["words"] (defScope s_read_integers) := ⟨rfl, rfl, rfl, by decide +kernel, rfl, by decide +kernel, by decide +kernel⟩
theorem ok_read_integers {f : Addr} {fd : FuncData} (F : Fun K "read_integers" "read_integers" s_read_integers f fd) (B : Bt mg) (KC : Kt K mg) (KL : Lt K mg) (XF : Xt K mg) (G_is_integer : Fn P w K mg base "is_integer" 1 R_is_integer) :
    FnOk P w K mg base CX0 2 f fd ["words"] (spR K R_read_integers) := by
  refine fn_ok (k := 1) F sc_read_integers (fun ds d h => by cases h; rfl) fun ds d hR cdv A outer s H E hr => ?_
  have nd := sc_read_integers.nd
  have hu := hr.units
  rcases hR with ⟨ws, o, r, hs, hl⟩
  walk_at "en"
  refine ws_cons (ws_if (td_not (td_truth (ed_callB (id := "all") (by rfl) B.«all» bb_all (ad_cons (ed_lst (eo_map2 [("word", 1)] (ws) (D.str) (isIB) (D.bl) rfl nd (blkOk_by (N := ["words", "word"]) (sc := defScope s_read_integers) (by decide +kernel)) (id_list (ed_var 0 rfl)) (rfl) (fun w hxm => ⟨_, by rfl, fun _ _ _ _ _ => ⟨(dg_name 1 nd), tds_nil, (ed_call G_is_integer (hr.mono (by decide)) (by rfl) (ad_cons (ed_var 1 rfl) ad_nil) (by exact .gen _ (hs w hxm)))⟩⟩) (by rw [sizeLine_eq]; omega))) ad_nil) (bc_all rfl)) rfl)) (fun hc1 => ?_) (fun hc1 => ?_))
  · skip
    obtain rfl : o = none := by
      rw [r.all] at hc1
      cases o with
      | none => rfl
      | some ns => cases hc1
    refine ws_cons (ws_ret (ED.eq ed_non ?_) (Or.inl rfl))
    first | rfl | (rw [List.map_id]; rfl)
  · skip
    obtain ⟨ns, rfl⟩ : ∃ ns, o = some ns := by
      rw [r.all] at hc1
      cases o with
      | none => cases hc1
      | some ns => exact ⟨ns, rfl⟩
    obtain ⟨rfl, hz⟩ := r.some
    refine ws_nil ?_
    refine ws_cons (ws_ret (ED.eq (ed_callT (T := "tuple") (by rfl) B.«tuple» bb_tuple (ad_cons (ed_lst (eo_map2 [("word", 1)] (ns) (fun i : Int => D.str (stI i)) (id) (D.int) rfl nd (blkOk_by (N := ["words", "word"]) (sc := defScope s_read_integers) (by decide +kernel)) (id_list (ed_var 0 rfl)) (by rw [List.map_map]; rfl) (fun i hxm => ⟨_, by rfl, fun _ _ _ _ _ => ⟨(dg_name 1 nd), tds_nil, (ed_callT (T := "int") (by rfl) B.«int» bb_int (ad_cons (ed_var 1 rfl) ad_nil) (bc_intS (hz i hxm).int (Nat.le_trans (hz i hxm).len (by decide))))⟩⟩) (by rw [sizeLine_eq]; rw [List.length_map] at hl; omega))) ad_nil) (by walk_at "bc")) ?_) (Or.inl rfl))
    first | rfl | (rw [List.map_id]; rfl)
abbrev s_BlockList_init : Stmt := inClass (top 25) 0
theorem sc_BlockList_init : FnScope ["self"] ["self"] (defScope s_BlockList_init) := ⟨rfl, rfl, rfl, by decide +kernel, rfl, by decide +kernel, by decide +kernel⟩
theorem ok_BlockList_init {f : Addr} {fd : FuncData} (F : Fun K "__init__" "BlockList.__init__" s_BlockList_init f fd) (B : Bt mg) (KC : Kt K mg) (KL : Lt K mg) (XF : Xt K mg)  :
    FnOk P w K mg base CX0 1 f fd ["self"] (spIL K "BlockList" R_BlockList_init) := by
  refine fn_okIL (k := 0) F sc_BlockList_init (fun a ds Ψ h => by cases h; rfl) fun a0 ds Ψ hR cdv A outer s H E hr => ?_
  have nd := sc_BlockList_init.nd
  have hu := hr.units
  rcases hR with ⟨⟩
  walk_at "en"
  refine ws_cons (ws_setFO 0 KL.«BlockList» rfl eo_dk fun q1 => ?_)
  simp only [List.cons_append, List.nil_append]
  walk_at "env"
  refine ws_cons (ws_setFC 0 KL.«BlockList» rfl ed_non ?_)
  simp only [List.cons_append, List.nil_append]
  walk_at "env"
  refine ws_cons (ws_setFC 0 KL.«BlockList» rfl (ed_lst (eo_lst ad_nil)) ?_)
  simp only [List.cons_append, List.nil_append]
  walk_at "env"
  refine ws_cons (ws_setFO 0 KL.«BlockList» rfl (eo_lst ad_nil) fun q2 => ?_)
  simp only [List.cons_append, List.nil_append]
  walk_at "env"
  refine ws_cons (ws_setFO 0 KL.«BlockList» rfl (eo_lst ad_nil) fun q3 => ?_)
  simp only [List.cons_append, List.nil_append]
  walk_at "env"
  refine ws_nil ?_
  refine ⟨_, _, _, rfl, rfl, ?_⟩
  exact ⟨_, _, _, rfl⟩
abbrev s_BlockList_take_v : Stmt := inClass (top 25) 1
theorem sc_BlockList_take_v : FnScope ["self", "words"] ["self", "words"] (defScope s_BlockList_take_v) := ⟨rfl, rfl, rfl, by decide +kernel, rfl, by decide +kernel, by decide +kernel⟩
theorem ok_BlockList_take_v {f : Addr} {fd : FuncData} (F : Fun K "take" "BlockList.take" s_BlockList_take_v f fd) (B : Bt mg) (KC : Kt K mg) (KL : Lt K mg) (XF : Xt K mg) (G_BlockList_take_block_v : FnML P w K mg base "BlockList" "_take_block" 6 R_BlockList_take_block_v) (G_BlockList_take_device_v : FnML P w K mg base "BlockList" "_take_device" 3 R_BlockList_take_device_v) (G_BlockList_take_use_v : FnML P w K mg base "BlockList" "_take_use" 3 R_BlockList_take_use_v) (G_read_integers : Fn P w K mg base "read_integers" 2 R_read_integers) :
    FnOk P w K mg base CX0 8 f fd ["self", "words"] (spL K R_BlockList_take_v) := by
  refine fn_okL (k := 7) F sc_BlockList_take_v (fun a cs ds Ψ h => by cases h; rfl) fun a0 cs0 ds Ψ hR cdv A outer s H E hr => ?_
  have nd := sc_BlockList_take_v.nd
  have hu := hr.units
  rcases hR with ⟨p, q, r, sx, l, h⟩
  walk_at "en"
  refine ws_cons (ws_if (td_tw (tw_and (td_cmp (ed_ix (ED.eq (ed_var 1 rfl) (ln_words l)) ed_int IX.l0) ed_str (by walk_at "c2")) (fun hb2 => (tw_and1 (td_cmp (ed_callB (id := "len") (by rfl) B.«len» bb_len (ad_cons (ed_var 1 rfl) ad_nil) (by walk_at "bc")) ed_int (by walk_at "c2")))))) (fun hc1 => ?_) (fun hc1 => ?_))
  · skip
    obtain ⟨b, rfl⟩ := hd_b hc1
    refine ws_cons (ws_retCP 0 (ep_methW 0 G_BlockList_take_block_v (hr.mono (by decide)) rfl (List.mem_iff_getElem?.mpr ⟨0, rfl⟩) (ed_varX 0 rfl) (ad_cons (ED.eq (ed_ix (ed_var 1 rfl) ed_int IX.l1) rfl) (ad_cons (ED.eq (ed_lst (eo_slice (ed_var 1 rfl) (some_part ed_int) no_part)) (show _ = D.lst (b.P.map .str) from congrArg D.lst (cutDrop _ (by decide)))) ad_nil)) (.mk a0 p q r sx b h)) ?_)
    rintro _ _ ⟨_, ⟨q2, r2, rfl, rfl⟩, rfl⟩
    exact ⟨_, _, rfl, Or.inl ⟨_, _, rfl, q2, r2, rfl, rfl⟩⟩
  · skip
    have f1 := hc1
    rw [List.length_map] at f1
    refine ws_nil ?_
    refine ws_cons (ws_if (td_tw (tw_and (td_cmp (ed_ix (ED.eq (ed_var 1 rfl) (ln_words l)) ed_int IX.l0) ed_str (by walk_at "c2")) (fun hb4 => (tw_and1 (td_cmp (ed_callB (id := "len") (by rfl) B.«len» bb_len (ad_cons (ed_var 1 rfl) ad_nil) (by walk_at "bc")) ed_int (by walk_at "c2")))))) (fun hc3 => ?_) (fun hc3 => ?_))
    · skip
      obtain ⟨v, rfl⟩ := hd_d hc3
      have hv : DvS v := by obtain ⟨_, _, _, _, hv⟩ := h; exact hv
      refine ws_cons (ws_retCP 0 (ep_methW 0 G_BlockList_take_device_v (hr.mono (by decide)) rfl (List.mem_iff_getElem?.mpr ⟨0, rfl⟩) (ed_varX 0 rfl) (ad_cons (ED.eq (ed_lst (eo_slice (ed_var 1 rfl) (some_part ed_int) (some_part ed_int))) (show _ = D.lst (([v.k, v.g, v.e, v.o] : List Str).map .str) from rfl)) (ad_cons (ed_call G_read_integers (hr.mono (by decide)) (by rfl) (ad_cons (ED.eq (ed_lst (eo_slice (ed_var 1 rfl) (some_part ed_int) no_part)) (show _ = D.lst (([v.w, v.l] : List Int).map fun i => D.str (stI i)) from rfl)) ad_nil) (.mk [v.w, v.l] (fun i hi => by have hi : i = v.w ∨ i = v.l := (by simpa using hi); rcases hi with rfl | rfl <;> first | exact hv.2.1 | exact hv.2.2) (by simp))) ad_nil)) (.mk a0 p q r sx v h)) ?_)
      rintro _ _ ⟨_, ⟨rfl, rfl⟩, rfl⟩
      exact ⟨_, _, rfl, Or.inl ⟨_, _, rfl, q, r, rfl, rfl⟩⟩
    · skip
      have f2 := hc3
      rw [List.length_map] at f2
      refine ws_nil ?_
      refine ws_cons (ws_if (td_tw (tw_and (td_cmp (ed_ix (ED.eq (ed_var 1 rfl) (ln_words l)) ed_int IX.l0) ed_str (by walk_at "c2")) (fun hb6 => (tw_and1 (td_cmp (ed_callB (id := "len") (by rfl) B.«len» bb_len (ad_cons (ed_var 1 rfl) ad_nil) (by walk_at "bc")) ed_int (by walk_at "c2")))))) (fun hc5 => ?_) (fun hc5 => ?_))
      · skip
        obtain ⟨u, rfl⟩ := hd_u hc5
        refine ws_cons (ws_retCP 0 (ep_methW 0 G_BlockList_take_use_v (hr.mono (by decide)) rfl (List.mem_iff_getElem?.mpr ⟨0, rfl⟩) (ed_varX 0 rfl) (ad_cons (ED.eq (ed_ix (ed_var 1 rfl) ed_int IX.l1) rfl) (ad_cons (ed_callT (T := "tuple") (by rfl) B.«tuple» bb_tuple (ad_cons (ED.eq (ed_lst (eo_slice (ed_var 1 rfl) (some_part ed_int) no_part)) (show _ = D.lst (u.N.map .str) from congrArg D.lst (cutDrop _ (by decide)))) ad_nil) bc_tupL) ad_nil)) (.mk a0 p q r sx u h)) ?_)
        rintro _ _ ⟨_, ⟨rfl, rfl⟩, rfl⟩
        exact ⟨_, _, rfl, Or.inl ⟨_, _, rfl, q, r, rfl, rfl⟩⟩
      · skip
        rw [List.length_map] at hc5; exact (hd_one l f1 f2 hc5).elim
abbrev s_BlockList_take_x : Stmt := inClass (top 25) 1
theorem sc_BlockList_take_x : FnScope ["self", "words"] ["self", "words"] (defScope s_BlockList_take_x) := ⟨rfl, rfl, rfl, by decide +kernel, rfl, by decide +kernel, by decide +kernel⟩
theorem ok_BlockList_take_x {f : Addr} {fd : FuncData} (F : Fun K "take" "BlockList.take" s_BlockList_take_x f fd) (B : Bt mg) (KC : Kt K mg) (KL : Lt K mg) (XF : Xt K mg) (G_BlockList_take_block_x : FnML P w K mg base "BlockList" "_take_block" 7 R_BlockList_take_block_x) (G_BlockList_take_device_x : FnML P w K mg base "BlockList" "_take_device" 4 R_BlockList_take_device_x) (G_BlockList_take_use_x : FnML P w K mg base "BlockList" "_take_use" 4 R_BlockList_take_use_x) (G_read_integers : Fn P w K mg base "read_integers" 2 R_read_integers) :
    FnOk P w K mg base CX0 9 f fd ["self", "words"] (spL K R_BlockList_take_x) := by
  refine fn_okL (k := 8) F sc_BlockList_take_x (fun a cs ds Ψ h => by cases h; rfl) fun a0 cs0 ds Ψ hR cdv A outer s H E hr => ?_
  have nd := sc_BlockList_take_x.nd
  have hu := hr.units
  rcases hR with ⟨p, q, r, sx, ws, ok, hw, hB⟩
  have hsz := hw.sz
  have hfew := hw.few
  walk_at "en"
  rcases hB with ⟨n, P, hb⟩ | ⟨k, g, e, o, a, b, z, rd, hb⟩ | ⟨n, N, hb⟩ | ⟨w, ws, h1, h2, h3⟩
  · skip
    refine ws_cons (ws_if (td_tw (tw_and (td_cmp (ed_ix (ed_var 1 rfl) ed_int (by walk_at "ix")) ed_str (by walk_at "c2")) (fun hb2 => (tw_and1 (td_cmp (ed_callB (id := "len") (by rfl) B.«len» bb_len (ad_cons (ed_var 1 rfl) ad_nil) (by walk_at "bc")) ed_int (by walk_at "c2")))))) (fun hc1 => ?_) (fun hc1 => ?_))
    · skip
      clear hc1
      refine ws_cons (ws_retCP 0 (ep_methW 0 G_BlockList_take_block_x (hr.mono (by decide)) rfl (List.mem_iff_getElem?.mpr ⟨0, rfl⟩) (ed_varX 0 rfl) (ad_cons (ED.eq (ed_ix (ed_var 1 rfl) ed_int IX.l1) rfl) (ad_cons (ED.eq (ed_lst (eo_slice (ed_var 1 rfl) (some_part ed_int) no_part)) (show _ = D.lst (P.map .str) from congrArg D.lst (cutDrop _ (by decide)))) ad_nil)) (.mk a0 p q r sx n P ok hb (by simp at hfew; omega) ⟨hsz n (by simp), fun x hx => hsz x (by simp [hx])⟩)) ?_)
      rintro _ _ ⟨_, rfl, rfl⟩
      exact ⟨_, _, rfl, Or.inl ⟨_, _, rfl, rfl⟩⟩
    · skip
      exfalso; simp at hc1 <;> omega
  · skip
    refine ws_cons (ws_if (td_tw (tw_and (td_cmp (ed_ix (ed_var 1 rfl) ed_int (by walk_at "ix")) ed_str (by walk_at "c2")) (fun hb4 => (tw_and1 (td_cmp (ed_callB (id := "len") (by rfl) B.«len» bb_len (ad_cons (ed_var 1 rfl) ad_nil) (by walk_at "bc")) ed_int (by walk_at "c2")))))) (fun hc3 => ?_) (fun hc3 => ?_))
    · skip
      exfalso; simp [lit_ne] at hc3
    · skip
      clear hc3
      refine ws_nil ?_
      refine ws_cons (ws_if (td_tw (tw_and (td_cmp (ed_ix (ed_var 1 rfl) ed_int (by walk_at "ix")) ed_str (by walk_at "c2")) (fun hb6 => (tw_and1 (td_cmp (ed_callB (id := "len") (by rfl) B.«len» bb_len (ad_cons (ed_var 1 rfl) ad_nil) (by walk_at "bc")) ed_int (by walk_at "c2")))))) (fun hc5 => ?_) (fun hc5 => ?_))
      · skip
        clear hc5
        refine ws_cons (ws_retCP 0 (ep_methW 0 G_BlockList_take_device_x (hr.mono (by decide)) rfl (List.mem_iff_getElem?.mpr ⟨0, rfl⟩) (ed_varX 0 rfl) (ad_cons (ED.eq (ed_lst (eo_slice (ed_var 1 rfl) (some_part ed_int) (some_part ed_int))) (show _ = D.lst (([k, g, e, o] : List Str).map .str) from rfl)) (ad_cons (ed_call G_read_integers (hr.mono (by decide)) (by rfl) (ad_cons (ED.eq (ed_lst (eo_slice (ed_var 1 rfl) (some_part ed_int) no_part)) (show _ = D.lst (([a, b] : List Str).map .str) from rfl)) ad_nil) (.gen [a, b] z rd (fun w hw9 => Nat.le_trans (hw.ok w (by simp at hw9; rcases hw9 with rfl | rfl <;> simp)).n (by decide)) (by simp))) ad_nil)) (.mk a0 p q r sx k g e o z (rdw2 rd) (fun x hx => hsz x (by simp at hx; rcases hx with rfl | rfl | rfl <;> simp)) hb)) ?_)
        rintro _ _ ⟨_, rfl, rfl⟩
        exact ⟨_, _, rfl, Or.inl ⟨_, _, rfl, rfl⟩⟩
      · skip
        exfalso; simp at hc5 <;> omega
  · skip
    refine ws_cons (ws_if (td_tw (tw_and (td_cmp (ed_ix (ed_var 1 rfl) ed_int (by walk_at "ix")) ed_str (by walk_at "c2")) (fun hb8 => (tw_and1 (td_cmp (ed_callB (id := "len") (by rfl) B.«len» bb_len (ad_cons (ed_var 1 rfl) ad_nil) (by walk_at "bc")) ed_int (by walk_at "c2")))))) (fun hc7 => ?_) (fun hc7 => ?_))
    · skip
      exfalso; simp [lit_ne] at hc7
    · skip
      clear hc7
      refine ws_nil ?_
      refine ws_cons (ws_if (td_tw (tw_and (td_cmp (ed_ix (ed_var 1 rfl) ed_int (by walk_at "ix")) ed_str (by walk_at "c2")) (fun hb10 => (tw_and1 (td_cmp (ed_callB (id := "len") (by rfl) B.«len» bb_len (ad_cons (ed_var 1 rfl) ad_nil) (by walk_at "bc")) ed_int (by walk_at "c2")))))) (fun hc9 => ?_) (fun hc9 => ?_))
      · skip
        exfalso; simp [lit_ne] at hc9
      · skip
        clear hc9
        refine ws_nil ?_
        refine ws_cons (ws_if (td_tw (tw_and (td_cmp (ed_ix (ed_var 1 rfl) ed_int (by walk_at "ix")) ed_str (by walk_at "c2")) (fun hb12 => (tw_and1 (td_cmp (ed_callB (id := "len") (by rfl) B.«len» bb_len (ad_cons (ed_var 1 rfl) ad_nil) (by walk_at "bc")) ed_int (by walk_at "c2")))))) (fun hc11 => ?_) (fun hc11 => ?_))
        · skip
          clear hc11
          refine ws_cons (ws_retCP 0 (ep_methW 0 G_BlockList_take_use_x (hr.mono (by decide)) rfl (List.mem_iff_getElem?.mpr ⟨0, rfl⟩) (ed_varX 0 rfl) (ad_cons (ED.eq (ed_ix (ed_var 1 rfl) ed_int IX.l1) rfl) (ad_cons (ed_callT (T := "tuple") (by rfl) B.«tuple» bb_tuple (ad_cons (ED.eq (ed_lst (eo_slice (ed_var 1 rfl) (some_part ed_int) no_part)) (show _ = D.lst (N.map .str) from congrArg D.lst (cutDrop _ (by decide)))) ad_nil) bc_tupL) ad_nil)) (.mk a0 p q r sx n N hb (by simp at hfew; omega) ⟨hsz n (by simp), fun x hx => hsz x (by simp [hx])⟩)) ?_)
          rintro _ _ ⟨_, rfl, rfl⟩
          exact ⟨_, _, rfl, Or.inl ⟨_, _, rfl, rfl⟩⟩
        · skip
          exfalso; simp at hc11 <;> omega
  · skip
    refine ws_cons (ws_if (td_tw (tw_and (td_cmp (ed_ix (ed_var 1 rfl) ed_int (by walk_at "ix")) ed_str (by walk_at "c2")) (fun hb14 => (tw_and1 (td_cmp (ed_callB (id := "len") (by rfl) B.«len» bb_len (ad_cons (ed_var 1 rfl) ad_nil) (by walk_at "bc")) ed_int (by walk_at "c2")))))) (fun hc13 => ?_) (fun hc13 => ?_))
    · skip
      exfalso; exact no_b2 h1 hc13
    · skip
      clear hc13
      refine ws_nil ?_
      refine ws_cons (ws_if (td_tw (tw_and (td_cmp (ed_ix (ed_var 1 rfl) ed_int (by walk_at "ix")) ed_str (by walk_at "c2")) (fun hb16 => (tw_and1 (td_cmp (ed_callB (id := "len") (by rfl) B.«len» bb_len (ad_cons (ed_var 1 rfl) ad_nil) (by walk_at "bc")) ed_int (by walk_at "c2")))))) (fun hc15 => ?_) (fun hc15 => ?_))
      · skip
        exfalso; exact no_d h2 hc15
      · skip
        clear hc15
        refine ws_nil ?_
        refine ws_cons (ws_if (td_tw (tw_and (td_cmp (ed_ix (ed_var 1 rfl) ed_int (by walk_at "ix")) ed_str (by walk_at "c2")) (fun hb18 => (tw_and1 (td_cmp (ed_callB (id := "len") (by rfl) B.«len» bb_len (ad_cons (ed_var 1 rfl) ad_nil) (by walk_at "bc")) ed_int (by walk_at "c2")))))) (fun hc17 => ?_) (fun hc17 => ?_))
        · skip
          exfalso; exact no_b2 h3 hc17
        · skip
          clear hc17
          refine ws_nil ?_
          refine ws_cons (ws_retC 0 ed_bl rfl (Or.inl ⟨_, _, rfl, ?_⟩))
          rfl
abbrev s_BlockList_whole : Stmt := inClass (top 25) 2
theorem sc_BlockList_whole : FnScope ["self"] ["self"] (defScope s_BlockList_whole) := ⟨rfl, rfl, rfl, by decide +kernel, rfl, by decide +kernel, by decide +kernel⟩
theorem ok_BlockList_whole {f : Addr} {fd : FuncData} (F : Fun K "whole" "BlockList.whole" s_BlockList_whole f fd) (B : Bt mg) (KC : Kt K mg) (KL : Lt K mg) (XF : Xt K mg) (G_BlockList_complete : FnML P w K mg base "BlockList" "_complete" 5 R_BlockList_complete) (G_Schematic_init : FnI P w K mg base "Schematic" 3 R_Schematic_init) :
    FnOk P w K mg base CX0 6 f fd ["self"] (spL K R_BlockList_whole) := by
  refine fn_okL (k := 5) F sc_BlockList_whole (fun a cs ds Ψ h => by cases h; rfl) fun a0 cs0 ds Ψ hR cdv A outer s H E hr => ?_
  have nd := sc_BlockList_whole.nd
  have hu := hr.units
  rcases hR with ⟨p, q, r, sx, ok, sk, hl⟩
  have hZ : sx.D.length ≤ 60 := by rw [List.length_append] at hl; omega
  walk_at "en"
  refine ws_cons (ws_exprP (ep_meth0W 0 G_BlockList_complete (hr.mono (by decide)) rfl (List.mem_iff_getElem?.mpr ⟨0, rfl⟩) (ed_varX 0 rfl) (.mk a0 p q r sx.D sx.c ok (by omega))) ?_)
  rintro _ _ ⟨_, ⟨rfl, rfl⟩, rfl⟩
  walk_at "env"
  unfold blC
  refine ws_cons (ws_retC 0 (ed_own (eo_make G_Schematic_init (hr.mono (by decide)) (by rfl) (ad_cons (ED.eq (ed_lst (eo_listVals 0 1 rfl (by rfl) B.«list» rfl rfl (ed_fldC 0 0 KL.«BlockList» rfl (List.mem_iff_getElem?.mpr ⟨0, rfl⟩) (ed_varX 0 rfl)))) (by rw [libB_bs])) ad_nil) (.mk _ sk hl))) rfl (Or.inl ⟨_, _, rfl, ?_⟩))
  rfl
abbrev s_BlockList_complete : Stmt := inClass (top 25) 3
theorem sc_BlockList_complete : FnScope ["self"] ["self"] (defScope s_BlockList_complete) := ⟨rfl, rfl, rfl, by decide +kernel, rfl, by decide +kernel, by decide +kernel⟩
theorem ok_BlockList_complete {f : Addr} {fd : FuncData} (F : Fun K "_complete" "BlockList._complete" s_BlockList_complete f fd) (B : Bt mg) (KC : Kt K mg) (KL : Lt K mg) (XF : Xt K mg) (G_Block_init : FnI P w K mg base "Block" 3 R_Block_init) :
    FnOk P w K mg base CX0 5 f fd ["self"] (spL K R_BlockList_complete) := by
  refine fn_okL (k := 4) F sc_BlockList_complete (fun a cs ds Ψ h => by cases h; rfl) fun a0 cs0 ds Ψ hR cdv A outer s H E hr => ?_
  have nd := sc_BlockList_complete.nd
  have hu := hr.units
  rcases hR with ⟨p, q, r, Z, c, ok, hZl⟩
  walk_at "en"
  refine ws_cons (ws_if (td_cmp (ed_fldC 0 1 KL.«BlockList» rfl (List.mem_iff_getElem?.mpr ⟨0, rfl⟩) (ed_varX 0 rfl)) ed_non c2_notN (by rfl)) (fun hc1 => ?_) (fun hc1 => ?_))
  · skip
    obtain ⟨b, rfl⟩ := nmO_some hc1
    obtain ⟨okb, hnew⟩ := ok b (by simp)
    unfold blC
    refine ws_cons (ws_dputI 0 1 (k0 := .inr b.n) hu rfl rfl (ed_fldC 0 0 KL.«BlockList» rfl (List.mem_iff_getElem?.mpr ⟨0, rfl⟩) (ed_varX 0 rfl)) (ed_fldC 0 1 KL.«BlockList» rfl (List.mem_iff_getElem?.mpr ⟨0, rfl⟩) (ed_varX 0 rfl)) (ed_own (eo_showI 0 _ rfl (fun _ _ v h r => bl_show v h r) (blk_noT b) (eo_make G_Block_init (hr.mono (by decide)) (by rfl) (ad_cons (ed_fld 1 KL.«BlockList» (ed_var 0 rfl)) (ad_cons (ed_fld 2 KL.«BlockList» (ed_var 0 rfl)) (ad_cons (ed_fld 3 KL.«BlockList» (ed_var 0 rfl)) (ad_cons (ed_fld 4 KL.«BlockList» (ed_var 0 rfl)) ad_nil)))) (.mk b okb)))) (fun h => hnew (mem_keyB.mp h)) (by rw [keyB_len, libB_len, sizeLine_eq]; omega) ?_)
    walk_at "env"
    refine ws_nil ?_
    refine ws_nil ?_
    refine Or.inr ⟨_, _, _, rfl, rfl, ?_⟩
    refine ⟨?_, by first | rfl | trivial⟩
    first
      | (show _ = blC a0 p q r (Z ++ [b]) (some b); unfold blC; rw [libB_keys, libB_vals]; try rfl)
      | (show _ = blC a0 p q r (Z ++ []) none; rw [List.append_nil])
  · skip
    have hcn := nmO_none hc1
    subst hcn
    refine ws_nil ?_
    refine ws_nil ?_
    refine Or.inr ⟨_, _, _, rfl, rfl, ?_⟩
    refine ⟨?_, by first | rfl | trivial⟩
    first
      | (show _ = blC a0 p q r (Z ++ [b]) (some b); unfold blC; rw [libB_keys, libB_vals]; try rfl)
      | (show _ = blC a0 p q r (Z ++ []) none; rw [List.append_nil])
abbrev s_BlockList_take_block_v : Stmt := inClass (top 25) 4
theorem sc_BlockList_take_block_v : FnScope ["self", "name", "ports", "is_new"] ["self", "name", "ports"] (defScope s_BlockList_take_block_v) := ⟨rfl, rfl, rfl, by decide +kernel, rfl, by decide +kernel, by decide +kernel⟩
theorem ok_BlockList_take_block_v {f : Addr} {fd : FuncData} (F : Fun K "_take_block" "BlockList._take_block" s_BlockList_take_block_v f fd) (B : Bt mg) (KC : Kt K mg) (KL : Lt K mg) (XF : Xt K mg) (G_BlockList_complete : FnML P w K mg base "BlockList" "_complete" 5 R_BlockList_complete) (G_are_ports : Fn P w K mg base "are_ports" 2 R_are_ports) (G_is_name : Fn P w K mg base "is_name" 1 R_is_name) :
    FnOk P w K mg base CX0 6 f fd ["self", "name", "ports"] (spL K R_BlockList_take_block_v) := by
  refine fn_okL (k := 5) F sc_BlockList_take_block_v (fun a cs ds Ψ h => by cases h; rfl) fun a0 cs0 ds Ψ hR cdv A outer s H E hr => ?_
  have nd := sc_BlockList_take_block_v.nd
  have hu := hr.units
  rcases hR with ⟨p, q, r, sx, b, h⟩
  obtain ⟨h1, h2, h3, h4, h5, h6, h7⟩ := h
  have hZ : sx.D.length < 60 := by rw [List.length_append] at h2; omega
  walk_at "en"
  refine ws_cons (ws_exprP (ep_meth0W 0 G_BlockList_complete (hr.mono (by decide)) rfl (List.mem_iff_getElem?.mpr ⟨0, rfl⟩) (ed_varX 0 rfl) (.mk a0 p q r sx.D sx.c h1 (by omega))) ?_)
  rintro _ _ ⟨_, ⟨rfl, rfl⟩, rfl⟩
  walk_at "env"
  obtain ⟨Z, hZ1⟩ : ∃ Z, Z = sx.D ++ sx.c.toList := ⟨_, rfl⟩
  rw [← hZ1] at h2 h3 ⊢
  unfold blC
  refine ws_cons (ws_set 3 nd (ED.eq (ed_show 0 _ rfl (fun _ _ v h r => bl_show v h r) (ed_and (ed_cmp (ed_var 1 rfl) (ed_fld 0 KL.«BlockList» (ed_var 0 rfl)) (c2_notInDk hu (k0 := .inr b.n) rfl) (by rfl)) (fun _ => ed_one (ed_cmp (ed_callB (id := "len") (by rfl) B.«len» bb_len (ad_cons (ed_fld 0 KL.«BlockList» (ed_var 0 rfl)) ad_nil) bc_lenDk) (ed_const KC.«MOST_BLOCKS» (by rfl)) (by walk_at "c2") (by rfl))))) (show _ = D.bl true by rw [new_bl h2 h3])) ?_)
  walk_at "env"
  refine ws_cons (ws_if (td_tw (tw_or (td_not (td_truth (ed_var 3 rfl) rfl)) (fun hb3 => (tw_or (td_not (td_truth (ed_call G_is_name (hr.mono (by decide)) (by rfl) (ad_cons (ed_var 1 rfl) ad_nil) (by exact .mk _ (nm_size h4))) rfl)) (fun hb2 => (tw_or1 (td_not (td_truth (ed_call G_are_ports (hr.mono (by decide)) (by rfl) (ad_cons (ed_var 2 rfl) ad_nil) (by exact .mk _ h6 (by omega) h5)) rfl)))))))) (fun hc1 => ?_) (fun hc1 => ?_))
  · skip
    exfalso; rw [h4] at hc1; simp at hc1
  · skip
    clear hc1
    refine ws_nil ?_
    refine ws_cons (ws_setFCU 0 1 KL.«BlockList» rfl (ed_var 1 rfl) ?_)
    walk_at "env"
    refine ws_cons (ws_setFCU 0 2 KL.«BlockList» rfl (ed_var 2 rfl) ?_)
    walk_at "env"
    refine ws_cons (ws_setFOU 0 3 KL.«BlockList» rfl (eo_lst ad_nil) fun q2 => ?_)
    simp only [List.cons_append, List.nil_append]
    walk_at "env"
    refine ws_cons (ws_setFOU 0 4 KL.«BlockList» rfl (eo_lst ad_nil) fun r2 => ?_)
    simp only [List.cons_append, List.nil_append]
    walk_at "env"
    refine ws_pick46 0 rfl ?_
    walk_at "env"
    refine ws_cons (ws_retC 0 ed_bl rfl (Or.inl ⟨_, _, rfl, ?_⟩))
    exact ⟨q2, r2, by rw [hZ1]; rfl, rfl⟩
abbrev s_BlockList_take_block_x : Stmt := inClass (top 25) 4
theorem sc_BlockList_take_block_x : FnScope ["self", "name", "ports", "is_new"] ["self", "name", "ports"] (defScope s_BlockList_take_block_x) := ⟨rfl, rfl, rfl, by decide +kernel, rfl, by decide +kernel, by decide +kernel⟩
theorem ok_BlockList_take_block_x {f : Addr} {fd : FuncData} (F : Fun K "_take_block" "BlockList._take_block" s_BlockList_take_block_x f fd) (B : Bt mg) (KC : Kt K mg) (KL : Lt K mg) (XF : Xt K mg) (G_BlockList_complete : FnML P w K mg base "BlockList" "_complete" 5 R_BlockList_complete) (G_are_ports : Fn P w K mg base "are_ports" 2 R_are_ports) (G_is_name : Fn P w K mg base "is_name" 1 R_is_name) :
    FnOk P w K mg base CX0 7 f fd ["self", "name", "ports"] (spL K R_BlockList_take_block_x) := by
  refine fn_okL (k := 6) F sc_BlockList_take_block_x (fun a cs ds Ψ h => by cases h; rfl) fun a0 cs0 ds Ψ hR cdv A outer s H E hr => ?_
  have nd := sc_BlockList_take_block_x.nd
  have hu := hr.units
  rcases hR with ⟨p, q, r, sx, n, P, ok, bad, hPl, sz⟩
  have hZ := ok.few
  walk_at "en"
  refine ws_cons (ws_exprP (ep_meth0W 0 G_BlockList_complete (hr.mono (by decide)) rfl (List.mem_iff_getElem?.mpr ⟨0, rfl⟩) (ed_varX 0 rfl) (.mk a0 p q r sx.D sx.c ok.ok (by omega))) ?_)
  rintro _ _ ⟨_, ⟨rfl, rfl⟩, rfl⟩
  walk_at "env"
  unfold blC
  refine ws_cons (ws_set 3 nd (ED.eq (ed_show 0 _ rfl (fun _ _ v h r => bl_show v h r) (ed_and (ed_cmp (ed_var 1 rfl) (ed_fld 0 KL.«BlockList» (ed_var 0 rfl)) (c2_notInDk hu (k0 := .inr n) rfl) (by rfl)) (fun _ => ed_one (ed_cmp (ed_callB (id := "len") (by rfl) B.«len» bb_len (ad_cons (ed_fld 0 KL.«BlockList» (ed_var 0 rfl)) ad_nil) bc_lenDk) (ed_const KC.«MOST_BLOCKS» (by rfl)) (by walk_at "c2") (by rfl))))) (show _ = D.bl (nwB sx n) from rfl)) ?_)
  walk_at "env"
  refine ws_cons (ws_if (td_tw (tw_or (td_not (td_truth (ed_var 3 rfl) rfl)) (fun hb3 => (tw_or (td_not (td_truth (ed_call G_is_name (hr.mono (by decide)) (by rfl) (ad_cons (ed_var 1 rfl) ad_nil) (by exact .mk _ sz.1)) rfl)) (fun hb2 => (tw_or1 (td_not (td_truth (ed_call G_are_ports (hr.mono (by decide)) (by rfl) (ad_cons (ed_var 2 rfl) ad_nil) (by exact .gen _ hPl sz.2)) rfl)))))))) (fun hc1 => ?_) (fun hc1 => ?_))
  · skip
    clear hc1
    refine ws_cons (ws_retC 0 ed_bl rfl (Or.inl ⟨_, _, rfl, ?_⟩))
    rfl
  · skip
    exfalso; revert hc1; rcases bad with b | b | b <;> simp [b]
abbrev s_BlockList_take_device_v : Stmt := inClass (top 25) 5
theorem sc_BlockList_take_device_v : FnScope ["self", "words", "sizes"] ["self", "words", "sizes"] (defScope s_BlockList_take_device_v) := ⟨rfl, rfl, rfl, by decide +kernel, rfl, by decide +kernel, by decide +kernel⟩
theorem ok_BlockList_take_device_v {f : Addr} {fd : FuncData} (F : Fun K "_take_device" "BlockList._take_device" s_BlockList_take_device_v f fd) (B : Bt mg) (KC : Kt K mg) (KL : Lt K mg) (XF : Xt K mg) (G_is_block_device : Fn P w K mg base "is_block_device" 2 R_is_block_device) :
    FnOk P w K mg base CX0 3 f fd ["self", "words", "sizes"] (spL K R_BlockList_take_device_v) := by
  refine fn_okL (k := 2) F sc_BlockList_take_device_v (fun a cs ds Ψ h => by cases h; rfl) fun a0 cs0 ds Ψ hR cdv A outer s H E hr => ?_
  have nd := sc_BlockList_take_device_v.nd
  have hu := hr.units
  rcases hR with ⟨p, q, r, sx, v, h⟩
  obtain ⟨c, hc, hU, hl, hv⟩ := h
  obtain ⟨Z, c0⟩ := sx
  simp only at hc
  subst hc
  unfold blC
  walk_at "en"
  refine ws_cons (ws_if (td_show 0 _ rfl (fun _ _ v h r => bl_show v h r) (td_tw (tw_or (td_cmp (ed_fld 1 KL.«BlockList» (ed_var 0 rfl)) ed_non (by walk_at "c2")) (fun hb4 => (tw_or (td_truth (ed_fld 4 KL.«BlockList» (ed_var 0 rfl)) rfl) (fun hb3 => (tw_or (td_cmp (ed_var 2 rfl) ed_non (by walk_at "c2")) (fun hb2 => (tw_or1 (td_not (td_truth (ed_call G_is_block_device (hr.mono (by decide)) (by rfl) (ad_cons (ED.eq (ed_tup (ad_starL (ed_var 1 rfl) (ad_star (ed_var 2 rfl) ad_nil)) (by show (6 : Nat) ≤ sizeLine; rw [sizeLine_eq]; omega)) (show _ = v.d from rfl)) ad_nil) (by exact .mk v hv.1)) rfl))))))))))) (fun hc1 => ?_) (fun hc1 => ?_))
  · skip
    exfalso; simp [nmO, usO, hU, isNon] at hc1
  · skip
    clear hc1
    refine ws_nil ?_
    refine ws_cons (ws_appendI 0 2 rfl rfl (ed_fldC 0 3 KL.«BlockList» rfl (List.mem_iff_getElem?.mpr ⟨0, rfl⟩) (ed_varX 0 rfl)) (ED.eq (ed_tup (ad_starL (ed_var 1 rfl) (ad_star (ed_var 2 rfl) ad_nil)) (by show (6 : Nat) ≤ sizeLine; rw [sizeLine_eq]; omega)) (show _ = v.d from rfl)) (by show (c.V.map BDev.d).length < _; rw [List.length_map, sizeLine_eq]; omega) ?_ (fun h h2 => ps_expr (pe_bm PySem.F.plainAttrs_list PySem.F.slot_list_append PySem.F.type_list_append mt_append h h2)))
    walk_at "env"
    refine ws_cons (ws_retC 0 ed_bl rfl (Or.inl ⟨_, _, rfl, ?_⟩))
    refine ⟨?_, rfl⟩
    show _ = blC a0 p q r Z (some ⟨c.n, c.P, c.V ++ [v], c.U⟩)
    unfold blC dvO usO nmO ptO
    rw [List.map_append]
    rfl
abbrev s_BlockList_take_device_x : Stmt := inClass (top 25) 5
theorem sc_BlockList_take_device_x : FnScope ["self", "words", "sizes"] ["self", "words", "sizes"] (defScope s_BlockList_take_device_x) := ⟨rfl, rfl, rfl, by decide +kernel, rfl, by decide +kernel, by decide +kernel⟩
theorem ok_BlockList_take_device_x {f : Addr} {fd : FuncData} (F : Fun K "_take_device" "BlockList._take_device" s_BlockList_take_device_x f fd) (B : Bt mg) (KC : Kt K mg) (KL : Lt K mg) (XF : Xt K mg) (G_is_block_device : Fn P w K mg base "is_block_device" 2 R_is_block_device) :
    FnOk P w K mg base CX0 4 f fd ["self", "words", "sizes"] (spL K R_BlockList_take_device_x) := by
  refine fn_okL (k := 3) F sc_BlockList_take_device_x (fun a cs ds Ψ h => by cases h; rfl) fun a0 cs0 ds Ψ hR cdv A outer s H E hr => ?_
  have nd := sc_BlockList_take_device_x.nd
  have hu := hr.units
  rcases hR with ⟨p, q, r, sx, k, g, e, o, z, hz, sz, bad⟩
  unfold blC
  walk_at "en"
  rcases hz with rfl | ⟨w, l, rfl⟩
  · skip
    refine ws_cons (ws_if (td_show 0 _ rfl (fun _ _ v h r => bl_show v h r) (td_tw (tw_or (td_cmp (ed_fld 1 KL.«BlockList» (ed_var 0 rfl)) ed_non (by walk_at "c2")) (fun hb4 => (tw_or (td_truth (ed_fld 4 KL.«BlockList» (ed_var 0 rfl)) rfl) (fun hb3 => (tw_or (td_cmp (ed_var 2 rfl) ed_non (by walk_at "c2")) (fun hb2 => (tw_or1 (td_not (td_truth (ed_call G_is_block_device (hr.mono (by decide)) (by rfl) (ad_cons (show ED _ _ _ (BDev.mk k g e o 0 0).d from by contradiction) ad_nil) (by exact .gen _ sz)) rfl))))))))))) (fun hc1 => ?_) (fun hc1 => ?_))
    · skip
      clear hc1
      refine ws_cons (ws_retC 0 ed_bl rfl (Or.inl ⟨_, _, rfl, ?_⟩))
      rfl
    · skip
      exfalso; simp [optT, isNon] at hc1
  · skip
    refine ws_cons (ws_if (td_show 0 _ rfl (fun _ _ v h r => bl_show v h r) (td_tw (tw_or (td_cmp (ed_fld 1 KL.«BlockList» (ed_var 0 rfl)) ed_non (by walk_at "c2")) (fun hb8 => (tw_or (td_truth (ed_fld 4 KL.«BlockList» (ed_var 0 rfl)) rfl) (fun hb7 => (tw_or (td_cmp (ed_var 2 rfl) ed_non (by walk_at "c2")) (fun hb6 => (tw_or1 (td_not (td_truth (ed_call G_is_block_device (hr.mono (by decide)) (by rfl) (ad_cons (ED.eq (ed_tup (ad_starL (ed_var 1 rfl) (ad_star (ed_var 2 rfl) ad_nil)) (by show (6 : Nat) ≤ sizeLine; rw [sizeLine_eq]; omega)) (show _ = (BDev.mk k g e o w l).d from rfl)) ad_nil) (by exact .gen ⟨k, g, e, o, w, l⟩ sz)) rfl))))))))))) (fun hc5 => ?_) (fun hc5 => ?_))
    · skip
      clear hc5
      refine ws_cons (ws_retC 0 ed_bl rfl (Or.inl ⟨_, _, rfl, ?_⟩))
      rfl
    · skip
      exfalso; exact dev_fall bad hc5
abbrev s_BlockList_take_use_v : Stmt := inClass (top 25) 6
theorem sc_BlockList_take_use_v : FnScope ["self", "name", "nets"] ["self", "name", "nets"] (defScope s_BlockList_take_use_v) := ⟨rfl, rfl, rfl, by decide +kernel, rfl, by decide +kernel, by decide +kernel⟩
theorem ok_BlockList_take_use_v {f : Addr} {fd : FuncData} (F : Fun K "_take_use" "BlockList._take_use" s_BlockList_take_use_v f fd) (B : Bt mg) (KC : Kt K mg) (KL : Lt K mg) (XF : Xt K mg) (G_is_use : Fn P w K mg base "is_use" 2 R_is_use) :
    FnOk P w K mg base CX0 3 f fd ["self", "name", "nets"] (spL K R_BlockList_take_use_v) := by
  refine fn_okL (k := 2) F sc_BlockList_take_use_v (fun a cs ds Ψ h => by cases h; rfl) fun a0 cs0 ds Ψ hR cdv A outer s H E hr => ?_
  have nd := sc_BlockList_take_use_v.nd
  have hu := hr.units
  rcases hR with ⟨p, q, r, sx, u, h⟩
  obtain ⟨c, hc, hl, hold, hpt, hN, h1, h2⟩ := h
  obtain ⟨Z, c0⟩ := sx
  simp only at hc hold hpt
  subst hc
  unfold blC
  walk_at "en"
  refine ws_cons (ws_if (td_show 0 _ rfl (fun _ _ v h r => bl_show v h r) (td_tw (tw_or (td_cmp (ed_var 1 rfl) (ed_fld 0 KL.«BlockList» (ed_var 0 rfl)) (c2_notInDk hu (k0 := .inr u.n) rfl) (by rfl)) (fun hb3 => (tw_or (td_cmp (ed_callB (id := "len") (by rfl) B.«len» bb_len (ad_cons (ed_var 2 rfl) ad_nil) (by walk_at "bc")) (ED.eq (ed_callB (id := "len") (by rfl) B.«len» bb_len (ad_cons (ed_fld 1 KL.«Block» (ed_dix hu (ed_fld 0 KL.«BlockList» (ed_var 0 rfl)) (ed_var 1 rfl) (k0 := .inr u.n) (lkB_at (g := fun x => blkD x.b) hold))) ad_nil) (by walk_at "bc")) (show _ = (D.int (cntB ptB (libB Z) u.n)) from by rw [cntB_at' hold, List.length_map]; rfl)) (by walk_at "c2")) (fun hb2 => (tw_or1 (td_not (td_truth (ed_call G_is_use (hr.mono (by decide)) (by rfl) (ad_cons (ED.eq (ed_tup (ad_cons (ed_var 1 rfl) (ad_cons (ed_var 2 rfl) ad_nil))) (show _ = (u.d) from by rfl)) ad_nil) (by exact .mk u hN ⟨h1, h2⟩)) rfl))))))))) (fun hc1 => ?_) (fun hc1 => ?_))
  · skip
    exfalso; rw [has_keyB.mpr hold, List.length_map, hpt] at hc1; simp at hc1
  · skip
    clear hc1
    refine ws_nil ?_
    refine ws_cons (ws_appendI 0 3 rfl rfl (ed_fldC 0 4 KL.«BlockList» rfl (List.mem_iff_getElem?.mpr ⟨0, rfl⟩) (ed_varX 0 rfl)) (ED.eq (ed_tup (ad_cons (ed_var 1 rfl) (ad_cons (ed_var 2 rfl) ad_nil))) (show _ = (u.d) from by rfl)) (by show (c.U.map BUse.d).length < _; rw [List.length_map, sizeLine_eq]; omega) ?_ (fun h h2 => ps_expr (pe_bm PySem.F.plainAttrs_list PySem.F.slot_list_append PySem.F.type_list_append mt_append h h2)))
    walk_at "env"
    refine ws_cons (ws_retC 0 ed_bl rfl (Or.inl ⟨_, _, rfl, ?_⟩))
    refine ⟨?_, rfl⟩
    show _ = blC a0 p q r Z (some ⟨c.n, c.P, c.V, c.U ++ [u]⟩)
    unfold blC dvO usO nmO ptO
    rw [List.map_append]
    rfl
abbrev s_BlockList_take_use_x : Stmt := inClass (top 25) 6
theorem sc_BlockList_take_use_x : FnScope ["self", "name", "nets"] ["self", "name", "nets"] (defScope s_BlockList_take_use_x) := ⟨rfl, rfl, rfl, by decide +kernel, rfl, by decide +kernel, by decide +kernel⟩
theorem ok_BlockList_take_use_x {f : Addr} {fd : FuncData} (F : Fun K "_take_use" "BlockList._take_use" s_BlockList_take_use_x f fd) (B : Bt mg) (KC : Kt K mg) (KL : Lt K mg) (XF : Xt K mg) (G_is_use : Fn P w K mg base "is_use" 2 R_is_use) :
    FnOk P w K mg base CX0 4 f fd ["self", "name", "nets"] (spL K R_BlockList_take_use_x) := by
  refine fn_okL (k := 3) F sc_BlockList_take_use_x (fun a cs ds Ψ h => by cases h; rfl) fun a0 cs0 ds Ψ hR cdv A outer s H E hr => ?_
  have nd := sc_BlockList_take_use_x.nd
  have hu := hr.units
  rcases hR with ⟨p, q, r, sx, n, N, bad, hNl, sz⟩
  unfold blC
  walk_at "en"
  refine ws_cons (ws_if (td_show 0 _ rfl (fun _ _ v h r => bl_show v h r) (td_tw (tw_or (td_cmp (ed_var 1 rfl) (ed_fld 0 KL.«BlockList» (ed_var 0 rfl)) (c2_notInDk hu (k0 := .inr n) rfl) (by rfl)) (fun hb3 => (tw_or (td_cmp (ed_callB (id := "len") (by rfl) B.«len» bb_len (ad_cons (ed_var 2 rfl) ad_nil) (by walk_at "bc")) (ED.eq (ed_callB (id := "len") (by rfl) B.«len» bb_len (ad_cons (ed_fld 1 KL.«Block» (ed_dix hu (ed_fld 0 KL.«BlockList» (ed_var 0 rfl)) (ed_var 1 rfl) (k0 := .inr n) (lkB_at (g := fun x => blkD x.b) (hold_of (by assumption))))) ad_nil) (by walk_at "bc")) (show _ = (D.int (cntB ptB (libB sx.D) n)) from by rw [cntB_at' (hold_of (by assumption)), List.length_map]; rfl)) (by walk_at "c2")) (fun hb2 => (tw_or1 (td_not (td_truth (ed_call G_is_use (hr.mono (by decide)) (by rfl) (ad_cons (ED.eq (ed_tup (ad_cons (ed_var 1 rfl) (ad_cons (ed_var 2 rfl) ad_nil))) (show _ = ((BUse.mk n N).d) from by rfl)) ad_nil) (by exact .gen ⟨n, N⟩ hNl sz)) rfl))))))))) (fun hc1 => ?_) (fun hc1 => ?_))
  · skip
    clear hc1
    refine ws_cons (ws_retC 0 ed_bl rfl (Or.inl ⟨_, _, rfl, ?_⟩))
    rfl
  · skip
    exfalso; exact use_fall bad hc1
abbrev s_parse_schematic : Stmt := top 26
theorem sc_parse_schematic : FnScope ["text", "blocks", "lines", "number", "line"] ["text"] (defScope s_parse_schematic) := ⟨rfl, rfl, rfl, by decide +kernel, rfl, by decide +kernel, by decide +kernel⟩
theorem ok_parse_schematic {f : Addr} {fd : FuncData} (F : Fun K "parse_schematic" "parse_schematic" s_parse_schematic f fd) (B : Bt mg) (KC : Kt K mg) (KL : Lt K mg) (XF : Xt K mg) (G_BlockList_init : FnIL P w K mg base "BlockList" 1 R_BlockList_init) (G_BlockList_take_v : FnML P w K mg base "BlockList" "take" 8 R_BlockList_take_v) (G_BlockList_whole : FnML P w K mg base "BlockList" "whole" 6 R_BlockList_whole) :
    FnOk P w K mg base CX0 10 f fd ["text"] (spR K R_parse_schematic) := by
  refine fn_ok (k := 9) F sc_parse_schematic (fun ds d h => by cases h; rfl) fun ds d hR cdv A outer s H E hr => ?_
  have nd := sc_parse_schematic.nd
  have hu := hr.units
  rcases hR with ⟨bs, t⟩
  have hbl := t.few
  have htl := txS_len t
  walk_at "en"
  refine ws_cons (ws_setC 1 nd (ec_make0 G_BlockList_init (hr.mono (by decide)) (by rfl) (fun a => .mk a)) ?_)
  rintro a1 _ ⟨p1, q1, r1, rfl⟩
  walk_at "env"
  refine ws_cons (ws_set 2 nd (ED.eq (ed_ifv (td_cmp (ed_var 0 rfl) ed_str (by walk_at "c2")) (fun hc1 => (ed_lst (eo_split (ed_var 0 rfl) ed_str (by decide +kernel) (by rw [sizeLine_eq]; omega)))) (fun hc1 => (ed_lst (eo_lst ad_nil)))) (show _ = (D.lst (((lnsT bs).map fun l => lnW l.ws).map .str)) from by exact txS_if t)) ?_)
  walk_at "env"
  refine ws_cons (ws_forX (List.range ((lnsT bs).length)) (fun (i : Nat) => D.tup [.int (((1 : Nat) : Int) + (i : Int)), .str (lnW ((lnsT bs).getD i l0).ws)]) rfl (id_enumS (k := 1) (by rfl) B.«enumerate» (ed_var 2 rfl)) (by exact txS_enum) (γ := Addr × Addr) (U := Sl × Sl) (fun i g u => [(1, .ox (blC a1 p1 g.1 g.2 (runL ((lnsT bs).take i)).D (runL ((lnsT bs).take i)).c) (.ad a1)), (3, u.1), (4, u.2)]) (fun r => (r.getD 3 .no, r.getD 4 .no)) (fun _ _ => True) ((q1, r1)) rfl (True.intro) ?_ ?_)
  · intro i0 t g0 u0 hx0 hP0
    obtain rfl : i0 = t := by
      obtain ⟨hl, he⟩ := List.getElem?_eq_some_iff.mp hx0
      rw [List.getElem_range] at he; exact he
    have hi0 : i0 < (lnsT bs).length := by have := (List.getElem?_eq_some_iff.mp hx0).1; rwa [List.length_range] at this
    have hli : (lnsT bs)[i0]? = some ((lnsT bs).getD i0 l0) := by rw [List.getD_eq_getElem?_getD, List.getElem?_eq_getElem hi0]; rfl
    obtain ⟨l, hl⟩ : ∃ l, l = (lnsT bs).getD i0 l0 := ⟨_, rfl⟩
    rw [← hl] at hli ⊢
    have hok := lines_ok bs t i0 l hli
    have hw := hok.w.ok
    refine ⟨_, _, (dg_tup rfl (dgs_cons (dg_name 3 nd) (dgs_cons (dg_name 4 nd) dgs_nil))), ?_⟩
    walk_at "env"
    refine ws_cons (ws_ifP (tp_not (tp_val (ep_methW 1 G_BlockList_take_v (hr.mono (by decide)) rfl (List.mem_iff_getElem?.mpr ⟨0, rfl⟩) (ed_varX 1 rfl) (ad_cons (ED.eq (ed_lst (eo_split (ed_var 4 rfl) ed_str (by decide +kernel) (by have := ln_len12 hw.2.2 hw.2.1; rw [sizeLine_eq]; omega))) (show _ = D.lst (l.ws.map D.str) by rw [ln_split hw.1 hw.2.2])) ad_nil) (.mk a1 p1 g0.1 g0.2 (runL ((lnsT bs).take i0)) l hok)) (fun d ρ' hw => by obtain ⟨_, ⟨_, _, _, e⟩, _⟩ := hw; exact ⟨true, e⟩))) ?_ ?_)
    · rintro _ ⟨_, ⟨_, _, _, e⟩, _⟩
      cases e
    rintro _ ⟨_, ⟨q2, r2, rfl, _⟩, rfl⟩
    walk_at "env"
    refine ws_nil ?_
    refine ws_nil ?_
    exact ⟨(q2, r2), by rw [List.take_add_one, hli]; simp only [Option.toList]; rw [runL_snoc]; rfl, True.intro⟩
  · intro g0 u0 hP0
    walk_at "env"
    rw [List.length_range, List.take_length]
    refine ws_cons (ws_retP2 (ep_meth0W 1 G_BlockList_whole (hr.mono (by decide)) rfl (List.mem_iff_getElem?.mpr ⟨0, rfl⟩) (ed_varX 1 rfl) (.mk a1 p1 g0.1 g0.2 (runL (lnsT bs)) (run_cur t) (by rw [run_full]; exact t.ok) (by rw [run_full]; exact t.few))) ?_)
    rintro _ _ ⟨_, rfl, rfl⟩
    exact Or.inl (by rw [run_full])
theorem okX_parse_schematic {f : Addr} {fd : FuncData} (F : Fun K "parse_schematic" "parse_schematic" s_parse_schematic f fd) (B : Bt mg) (KC : Kt K mg) (KL : Lt K mg) (XF : Xt K mg) (G_BlockList_init : FnIL P w K mg base "BlockList" 1 R_BlockList_init) (G_BlockList_take_v : FnML P w K mg base "BlockList" "take" 8 R_BlockList_take_v) (G_BlockList_take_x : FnML P w K mg base "BlockList" "take" 9 R_BlockList_take_x) (GE_InvalidText : FnEr P w K mg base "InvalidText" ["line"] 1 R_E_InvalidText) :
    FnOk P w K mg base (L2N.CX P w) 10 f fd ["text"] (spXG K RX_parse_schematic) := by
  refine fn_okXG (k := 9) F sc_parse_schematic (fun ds c h => by cases h; rfl) fun ds cn hR cdv A outer s H E hr => ?_
  have nd := sc_parse_schematic.nd
  have hu := hr.units
  rcases hR with ⟨W, k, hP⟩
  have hok := hP.ok
  rcases hP with ⟨ls, ww, rr, x⟩
  refine ⟨nosE 5, ?_⟩
  walk_at "en"
  refine xg_cons (ws_setC 1 nd (ec_make0 G_BlockList_init (hr.mono (by decide)) (by rfl) (fun a => .mk a)) ?_)
  rintro a1 _ ⟨p1, q1, r1, rfl⟩
  walk_at "env"
  refine xg_cons (ws_set 2 nd (ED.eq (ed_ifv (td_cmp (ed_var 0 rfl) ed_str (by walk_at "c2")) (fun hc1 => (ed_lst (eo_split (ed_var 0 rfl) ed_str (by decide +kernel) (by have := txM_len hok.1 hok.2.1; rw [sizeLine_eq]; omega)))) (fun hc1 => (ed_lst (eo_lst ad_nil)))) (show _ = (D.lst (((tlS ls ww rr).map lnW).map .str)) from by exact txM_if hok.1 hok.2.2.1)) ?_)
  walk_at "env"
  refine xg_head (xg_forX (List.range (tlS ls ww rr).length) (fun (i : Nat) => D.tup [.int (((1 : Nat) : Int) + (i : Int)), .str (lnW ((tlS ls ww rr).getD i []))]) rfl (id_enumS (k := 1) (by rfl) B.«enumerate» (ed_var 2 rfl)) (by exact txM_enum _) (γ := Addr × Addr) (U := Sl × Sl) (fun i g u => [(1, .ox (blC a1 p1 g.1 g.2 (runL (ls.take i)).D (runL (ls.take i)).c) (.ad a1)), (3, u.1), (4, u.2)]) (fun r => (r.getD 3 .no, r.getD 4 .no)) (fun _ _ => True) ((q1, r1)) (ls.length) (by rw [List.getElem?_range (by rw [tlS_len]; omega)]) (rfl) (True.intro) ?_ ?_ (by first | exact passes_of rfl | assumption))
  · intro i0 t9 g0 u0 hlt0 hx0 hP0
    obtain rfl : i0 = t9 := by
      obtain ⟨hl9, he9⟩ := List.getElem?_eq_some_iff.mp hx0
      rw [List.getElem_range] at he9; exact he9
    obtain ⟨l, hli⟩ : ∃ l, ls[i0]? = some l := ⟨ls[i0], List.getElem?_eq_getElem hlt0⟩
    have hok0 := x.ok i0 l hli
    have hw := hok0.wm
    rw [tlS_at hli]
    refine ⟨_, _, (dg_tup rfl (dgs_cons (dg_name 3 nd) (dgs_cons (dg_name 4 nd) dgs_nil))), ?_⟩
    walk_at "env"
    refine ws_cons (ws_ifP (tp_not (tp_val (ep_methW 1 G_BlockList_take_v (hr.mono (by decide)) rfl (List.mem_iff_getElem?.mpr ⟨0, rfl⟩) (ed_varX 1 rfl) (ad_cons (ED.eq (ed_lst (eo_split (ed_var 4 rfl) ed_str (by decide +kernel) (by have := hw.len; rw [sizeLine_eq]; omega))) (show _ = D.lst (l.ws.map D.str) by rw [ln_split hw.ne hw.ok])) ad_nil) (.mk a1 p1 g0.1 g0.2 (runL (ls.take i0)) l hok0)) (fun d ρ' hw => by obtain ⟨_, ⟨_, _, _, e⟩, _⟩ := hw; exact ⟨true, e⟩))) ?_ ?_)
    · rintro _ ⟨_, ⟨_, _, _, e⟩, _⟩
      cases e
    rintro _ ⟨_, ⟨q2, r2, rfl, _⟩, rfl⟩
    walk_at "env"
    refine ws_nil ?_
    refine ws_nil ?_
    exact ⟨(q2, r2), by rw [List.take_add_one, hli]; simp only [Option.toList]; rw [runL_snoc]; rfl, True.intro⟩
  · intro g0 u0 hP0
    have hw := x.w
    rw [tlS_end, List.take_length]
    refine ⟨_, _, (dg_tup rfl (dgs_cons (dg_name 3 nd) (dgs_cons (dg_name 4 nd) dgs_nil))), ?_⟩
    walk_at "env"
    refine xg_head (xg_ifP (tp_not (tp_val (ep_methW 1 G_BlockList_take_x (hr.mono (by decide)) rfl (List.mem_iff_getElem?.mpr ⟨0, rfl⟩) (ed_varX 1 rfl) (ad_cons (ED.eq (ed_lst (eo_split (ed_var 4 rfl) ed_str (by decide +kernel) (by have := hw.len; rw [sizeLine_eq]; omega))) (show _ = D.lst (ww.map D.str) by rw [ln_split hw.ne hw.ok])) ad_nil) (.mk a1 p1 g0.1 g0.2 (runL ls) ww x.cur x.w x.bad)) (fun d ρ' hw => by obtain ⟨_, rfl, _⟩ := hw; exact ⟨false, rfl⟩))) ?_ ?_)
    · skip
      rintro _ ⟨_, e9, rfl⟩
      walk_at "env"
      exact xg_no (xg_head (xg_raiseF GE_InvalidText (hr.mono (by decide)) (by rfl) (ad_cons (ed_var 3 rfl) ad_nil) (by exact .mk _ (sm_small (Nat.le_trans (show _ ≤ 1300 by have := hok.2.2.2; omega) (by decide))))))
    · rintro _ ⟨_, e9, _⟩; cases e9
abbrev s_law_cell : Stmt := top 28
theorem sc_law_cell : FnScope ["script", "k"] ["script", "k"] (defScope s_law_cell) := ⟨rfl, rfl, rfl, by decide +kernel, rfl, by decide +kernel, by decide +kernel⟩
theorem ok_law_cell {f : Addr} {fd : FuncData} (F : Fun K "_law_cell" "_law_cell" s_law_cell f fd) (B : Bt mg) (KC : Kt K mg) (KL : Lt K mg) (XF : Xt K mg)  :
    FnOk P w K mg base CX0 1 f fd ["script", "k"] (spR K R_law_cell) := by
  refine fn_ok (k := 0) F sc_law_cell (fun ds d h => by cases h; rfl) fun ds d hR cdv A outer s H E hr => ?_
  have nd := sc_law_cell.nd
  have hu := hr.units
  rcases hR with ⟨ns, k, h0⟩
  walk_at "en"
  refine ws_cons (ws_if (td_cmp (ed_var 1 rfl) (ed_callB (id := "len") (by rfl) B.«len» bb_len (ad_cons (ed_var 0 rfl) ad_nil) (by walk_at "bc")) (by walk_at "c2")) (fun hc1 => ?_) (fun hc1 => ?_))
  · skip
    simp only [decide_eq_true_eq, List.length_map] at hc1
    refine ws_cons (ws_ret (ED.eq (ed_ix (ed_var 0 rfl) (ed_var 1 rfl) (IX.l (at_ints (k := k.toNat) (x := cellAt ns k) (by omega) (by unfold cellAt; simp [show k.toNat < ns.length by omega])))) ?_) (Or.inl rfl))
    rfl
  · skip
    simp only [decide_eq_false_iff_not, List.length_map] at hc1
    refine ws_nil ?_
    refine ws_cons (ws_ret (ED.eq ed_int ?_) (Or.inl rfl))
    unfold cellAt; rw [List.getD_eq_getElem?_getD, List.getElem?_eq_none (by omega)]; rfl
abbrev s_law_draws : Stmt := top 29
theorem sc_law_draws : FnScope ["cell", "count", "rows", "left", "k", "mixed"] ["cell", "count"] (defScope s_law_draws) := ⟨rfl, rfl, rfl, by decide +kernel, rfl, by decide +kernel, by decide +kernel⟩
theorem ok_law_draws {f : Addr} {fd : FuncData} (F : Fun K "_law_draws" "_law_draws" s_law_draws f fd) (B : Bt mg) (KC : Kt K mg) (KL : Lt K mg) (XF : Xt K mg)  :
    FnOk P w K mg base CX0 1 f fd ["cell", "count"] (spR K R_law_draws) := by
  refine fn_ok (k := 0) F sc_law_draws (fun ds d h => by cases h; rfl) fun ds d hR cdv A outer s H E hr => ?_
  have nd := sc_law_draws.nd
  have hu := hr.units
  rcases hR with ⟨c, n, h0, h1⟩
  walk_at "en"
  refine ws_cons (ws_setO 2 nd (eo_lst ad_nil) ?_)
  walk_at "env"
  refine ws_cons (ws_set 3 nd (ed_var 0 rfl) ?_)
  walk_at "env"
  refine ws_cons (ws_forU (List.range n.toNat) (fun (i : Nat) => D.int (i : Int)) rfl (id_range1 (by rfl) B.«range» (ed_var 1 rfl) (by walk_at "side")) (by exact rngD0 _) (U := Sl × Sl) (fun i u => [(2, .ow (.lst ((drawn c i).1.map D.int))), (3, .sh (.int (drawn c i).2)), (4, u.1), (5, u.2)]) (fun r => (r.getD 4 .no, r.getD 5 .no)) (fun _ => True) (rfl) (True.intro) ?_ ?_)
  · intro i0 t u0 hx0 hP0
    obtain rfl : i0 = t := by
      obtain ⟨hl, he⟩ := List.getElem?_eq_some_iff.mp hx0
      rw [List.getElem_range] at he; exact he
    refine ⟨_, _, (dg_name 4 nd), ?_⟩
    walk_at "env"
    refine ws_cons (ws_if (td_tw (tw_and (td_cmp (ed_var 0 rfl) (ed_bin ed_int ed_int (b2_powL (n := 1000000000000000000) ⟨by decide, by decide, by decide⟩ (by decide))) (by walk_at "c2")) (fun hb2 => (tw_and1 (td_cmp (ed_var 3 rfl) ed_int (by walk_at "c2")))))) (fun hc1 => ?_) (fun hc1 => ?_))
    · skip
      simp only [Bool.and_eq_true, decide_eq_true_eq] at hc1
      have e : drawn c (i0 + 1) = ((drawn c i0).1 ++ [(drawn c i0).2 % 4096], (drawn c i0).2 / 4096) := by
        rw [drawn_succ]; unfold drawStep; rw [if_pos hc1]
      refine ws_cons (ws_append 2 rfl (ed_bin (ed_callT (T := "int") (by rfl) B.«int» bb_int (ad_cons (ed_var 3 rfl) ad_nil) (by walk_at "bc")) ed_int (by walk_at "b2")) (by rw [List.length_map, (draws_spec c i0).1, sizeLine_eq]; have := (List.getElem?_eq_some_iff.mp hx0).1; rw [List.length_range] at this; omega) ?_ (fun h => ps_expr (pe_bm PySem.F.plainAttrs_list PySem.F.slot_list_append PySem.F.type_list_append mt_append (pv 2) h)))
      walk_at "env"
      refine ws_cons (ws_set 3 nd (ed_bin (ed_var 3 rfl) ed_int (by walk_at "b2")) ?_)
      walk_at "env"
      refine ws_nil ?_
      refine ws_nil ?_
      refine ⟨?_, True.intro⟩
      rw [e, List.map_append]
      rfl
    · skip
      have e : drawn c (i0 + 1) = ((drawn c i0).1 ++ [mix3 c i0 / 7 % 4096], (drawn c i0).2) := by
        rw [drawn_succ]; unfold drawStep; rw [if_neg]; intro z; rw [decide_eq_true z.1, decide_eq_true z.2] at hc1; cases hc1
      refine ws_cons (ws_set 5 nd (ed_bin (ed_callT (T := "int") (by rfl) B.«int» bb_int (ad_cons (ed_bin (ed_bin (ed_var 0 rfl) ed_int (by walk_at "b2")) (ed_bin (ed_bin (ed_var 4 rfl) ed_int (by walk_at "b2")) ed_int (by walk_at "b2")) (by walk_at "b2")) ad_nil) (by walk_at "bc")) ed_int (by walk_at "b2")) ?_)
      walk_at "env"
      refine ws_cons (ws_set 5 nd (ed_bin (ed_callT (T := "int") (by rfl) B.«int» bb_int (ad_cons (ed_bin (ed_bin (ed_bin (ed_var 5 rfl) (ed_var 5 rfl) (by walk_at "b2")) (ed_bin (ed_var 5 rfl) ed_int (by walk_at "b2")) (by walk_at "b2")) (ed_bin (ed_var 4 rfl) ed_int (by walk_at "b2")) (by walk_at "b2")) ad_nil) (by walk_at "bc")) ed_int (by walk_at "b2")) ?_)
      walk_at "env"
      refine ws_cons (ws_set 5 nd (ed_bin (ed_callT (T := "int") (by rfl) B.«int» bb_int (ad_cons (ed_bin (ed_bin (ed_bin (ed_var 5 rfl) (ed_var 5 rfl) (by walk_at "b2")) (ed_var 0 rfl) (by walk_at "b2")) (ed_bin ed_int (ed_var 4 rfl) (by walk_at "b2")) (by walk_at "b2")) ad_nil) (by walk_at "bc")) ed_int (by walk_at "b2")) ?_)
      walk_at "env"
      refine ws_cons (ws_append 2 rfl (ed_bin (ed_bin (ed_var 5 rfl) ed_int (by walk_at "b2")) ed_int (by walk_at "b2")) (by rw [List.length_map, (draws_spec c i0).1, sizeLine_eq]; have := (List.getElem?_eq_some_iff.mp hx0).1; rw [List.length_range] at this; omega) ?_ (fun h => ps_expr (pe_bm PySem.F.plainAttrs_list PySem.F.slot_list_append PySem.F.type_list_append mt_append (pv 2) h)))
      walk_at "env"
      refine ws_nil ?_
      refine ws_nil ?_
      refine ⟨?_, True.intro⟩
      rw [e, List.map_append]
      rfl
  · intro u0 hP0
    walk_at "env"
    rw [List.length_range]
    refine ws_share 2 rfl ?_
    refine ws_cons (ws_ret (ED.eq (ed_var 2 rfl) ?_) (Or.inl rfl))
    rfl
abbrev s_law_name : Stmt := top 30
theorem sc_law_name : FnScope ["draw", "letters", "tail"] ["draw"] (defScope s_law_name) := ⟨rfl, rfl, rfl, by decide +kernel, rfl, by decide +kernel, by decide +kernel⟩
theorem ok_law_name {f : Addr} {fd : FuncData} (F : Fun K "_law_name" "_law_name" s_law_name f fd) (B : Bt mg) (KC : Kt K mg) (KL : Lt K mg) (XF : Xt K mg)  :
    FnOk P w K mg base CX0 1 f fd ["draw"] (spR K R_law_name) := by
  refine fn_ok (k := 0) F sc_law_name (fun ds d h => by cases h; rfl) fun ds d hR cdv A outer s H E hr => ?_
  have nd := sc_law_name.nd
  have hu := hr.units
  rcases hR with ⟨d, hd⟩
  walk_at "en"
  refine ws_cons (ws_set 1 nd ed_str ?_)
  walk_at "env"
  refine ws_cons (ws_setO 2 nd (eo_lst (ad_cons ed_str (ad_cons ed_str (ad_cons ed_str (ad_cons ed_str (ad_cons ed_str (ad_cons ed_str ad_nil))))))) ?_)
  refine ws_share 2 rfl ?_
  walk_at "env"
  refine ws_cons (ws_ret (ED.eq (ed_bin (ed_ixS (ed_var 1 rfl) (ed_bin (ed_var 0 rfl) ed_int (by walk_at "b2")) (by decide +kernel) (at_ltr (by omega) (by omega))) (ed_ix (ed_var 2 rfl) (ed_bin (ed_bin (ed_var 0 rfl) ed_int (by walk_at "b2")) ed_int (by walk_at "b2")) (.l (at_tls (by omega) (by omega)))) (b2_addS (by have := tls_len (d / 26 % 6).toNat; rw [sizeLine_eq]; show 1 + _ ≤ _; omega))) ?_) (Or.inl rfl))
  rfl
abbrev s_law_qbad_integer : Stmt := top 31
theorem sc_law_qbad_integer : FnScope ["draw"] ["draw"] (defScope s_law_qbad_integer) := ⟨rfl, rfl, rfl, by decide +kernel, rfl, by decide +kernel, by decide +kernel⟩
theorem ok_law_qbad_integer {f : Addr} {fd : FuncData} (F : Fun K "_law_qbad_integer" "_law_qbad_integer" s_law_qbad_integer f fd) (B : Bt mg) (KC : Kt K mg) (KL : Lt K mg) (XF : Xt K mg)  :
    FnOk P w K mg base CX0 1 f fd ["draw"] (spR K R_law_qbad_integer) := by
  refine fn_ok (k := 0) F sc_law_qbad_integer (fun ds d h => by cases h; rfl) fun ds d hR cdv A outer s H E hr => ?_
  have nd := sc_law_qbad_integer.nd
  have hu := hr.units
  rcases hR with ⟨d, hd⟩
  walk_at "en"
  refine ws_cons (ws_ret (ED.eq (ED.eq (ed_ix (ED.eq (ed_lst (eo_lst (ad_cons ed_str (ad_cons ed_str (ad_cons ed_str (ad_cons ed_str (ad_cons ed_str (ad_cons ed_str (ad_cons (ed_bin ed_str ed_int (b2_mulS (n := 31) (by decide) (by decide) (by decide +kernel) (by decide +kernel))) (ad_cons ed_str (ad_cons ed_str (ad_cons ed_str (ad_cons (ed_bin ed_str (ed_bin ed_str ed_int (b2_mulS (n := 31) (by decide) (by decide) (by decide +kernel) (by decide +kernel))) (b2_addS (by rw [sRep_len, sizeLine_eq]; decide +kernel))) (ad_cons ed_str ad_nil)))))))))))))) (show _ = D.lst (badIL.map .str) from rfl)) (ed_bin (ed_var 0 rfl) ed_int (by walk_at "b2")) (.l (at_getI (xs := badIL) (f := D.str) (i := d % 12) (a := "") (by show _ ∧ _ < (12 : Int); omega)))) (show _ = D.str (badIw d) from rfl)) ?_) (Or.inl rfl))
  rfl
abbrev s_law_qbad_name : Stmt := top 32
theorem sc_law_qbad_name : FnScope ["draw"] ["draw"] (defScope s_law_qbad_name) := ⟨rfl, rfl, rfl, by decide +kernel, rfl, by decide +kernel, by decide +kernel⟩
theorem ok_law_qbad_name {f : Addr} {fd : FuncData} (F : Fun K "_law_qbad_name" "_law_qbad_name" s_law_qbad_name f fd) (B : Bt mg) (KC : Kt K mg) (KL : Lt K mg) (XF : Xt K mg)  :
    FnOk P w K mg base CX0 1 f fd ["draw"] (spR K R_law_qbad_name) := by
  refine fn_ok (k := 0) F sc_law_qbad_name (fun ds d h => by cases h; rfl) fun ds d hR cdv A outer s H E hr => ?_
  have nd := sc_law_qbad_name.nd
  have hu := hr.units
  rcases hR with ⟨d, hd⟩
  walk_at "en"
  refine ws_cons (ws_ret (ED.eq (ED.eq (ed_ix (ED.eq (ed_lst (eo_lst (ad_cons ed_str (ad_cons ed_str (ad_cons ed_str (ad_cons ed_str (ad_cons ed_str (ad_cons ed_str (ad_cons ed_str (ad_cons ed_str ad_nil)))))))))) (show _ = D.lst (badNm.map .str) from rfl)) (ed_bin (ed_var 0 rfl) ed_int (by walk_at "b2")) (.l (at_getI (xs := badNm) (f := D.str) (i := d % 8) (a := "") (by show _ ∧ _ < (8 : Int); omega)))) (show _ = D.str (badAt d) from rfl)) ?_) (Or.inl rfl))
  rfl
abbrev s_law_qblocks : Stmt := top 33
theorem sc_law_qblocks : FnScope ["script", "first", "many", "pool", "rows", "k", "draws", "ports", "j", "devices", "uses", "row", "names", "other", "i"] ["script", "first", "many"] (defScope s_law_qblocks) := ⟨rfl, rfl, rfl, by decide +kernel, rfl, by decide +kernel, by decide +kernel⟩
theorem ok_law_qblocks {f : Addr} {fd : FuncData} (F : Fun K "_law_qblocks" "_law_qblocks" s_law_qblocks f fd) (B : Bt mg) (KC : Kt K mg) (KL : Lt K mg) (XF : Xt K mg) (G_law_cell : Fn P w K mg base "_law_cell" 1 R_law_cell) (G_law_draws : Fn P w K mg base "_law_draws" 1 R_law_draws) (G_law_name : Fn P w K mg base "_law_name" 1 R_law_name) :
    FnOk P w K mg base CX0 2 f fd ["script", "first", "many"] (spR K R_law_qblocks) := by
  refine fn_ok (k := 1) F sc_law_qblocks (fun ds d h => by cases h; rfl) fun ds d hR cdv A outer s H E hr => ?_
  have nd := sc_law_qblocks.nd
  have hu := hr.units
  rcases hR with ⟨ns, f, m, hf, hm⟩
  walk_at "en"
  refine ws_cons (ws_setO 3 nd (eo_lst (ad_cons ed_str (ad_cons ed_str (ad_cons ed_str (ad_cons ed_str (ad_cons ed_str (ad_cons ed_str (ad_cons ed_str ad_nil)))))))) ?_)
  refine ws_share 3 rfl ?_
  walk_at "env"
  refine ws_cons (ws_setO 4 nd (eo_lst ad_nil) ?_)
  walk_at "env"
  refine ws_cons (ws_forU (List.range (m.toNat)) (fun (i : Nat) => D.int (i : Int)) rfl (id_range1 (by rfl) B.«range» (ed_var 2 rfl) (by walk_at "side")) (by exact rngD0 _) (U := Sl × Sl × Sl × Sl × Sl × Sl × Sl × Sl × Sl) (fun i u => [(4, .ow (.lst ((qBs ns f i).map rwB))), (5, u.1), (6, u.2.1), (7, u.2.2.1), (8, u.2.2.2.1), (9, u.2.2.2.2.1), (10, u.2.2.2.2.2.1), (11, u.2.2.2.2.2.2.1), (12, u.2.2.2.2.2.2.2.1), (13, u.2.2.2.2.2.2.2.2)]) (fun r => (r.getD 5 .no, r.getD 6 .no, r.getD 7 .no, r.getD 8 .no, r.getD 9 .no, r.getD 10 .no, r.getD 11 .no, r.getD 12 .no, r.getD 13 .no)) (fun _ => True) (rfl) (True.intro) ?_ ?_)
  · intro i0 t u0 hx0 hP0
    obtain rfl : i0 = t := by
      obtain ⟨hl, he⟩ := List.getElem?_eq_some_iff.mp hx0
      rw [List.getElem_range] at he; exact he
    have hi0 : i0 < m.toNat := by have := (List.getElem?_eq_some_iff.mp hx0).1; rwa [List.length_range] at this
    have hun := unQ_le (bD ns f i0) i0
    refine ⟨_, _, (dg_name 5 nd), ?_⟩
    walk_at "env"
    refine ws_cons (ws_set 6 nd (ed_call G_law_draws (hr.mono (by decide)) (by rfl) (ad_cons (ed_call G_law_cell (hr.mono (by decide)) (by rfl) (ad_cons (ed_var 0 rfl) (ad_cons (ed_bin (ed_var 1 rfl) (ed_var 5 rfl) (by walk_at "b2")) ad_nil)) (by exact .mk _ _ (by omega))) (ad_cons ed_int ad_nil)) (by first | exact .mk _ _ (by decide) (by decide) | exact .mk _ _ (by omega) (by omega))) ?_)
    walk_at "env"
    refine ws_cons (ws_setO 7 nd (eo_lst ad_nil) ?_)
    walk_at "env"
    refine ws_cons (ws_forU (List.range ((bD ns f i0 0 % 4).toNat)) (fun (i : Nat) => D.int (i : Int)) rfl (id_range1 (by rfl) B.«range» (ed_bin (ed_ix (ed_var 6 rfl) ed_int (by walk_at "ix")) ed_int (by walk_at "b2")) (by walk_at "side")) (by exact rngD0 _) (U := Sl) (fun i u => [(7, .ow (.lst ((ptQ (bD ns f i0) i).map .str))), (8, u)]) (fun r => (r.getD 8 .no)) (fun _ => True) (rfl) (True.intro) ?_ ?_)
    · intro i1 t u1 hx1 hP1
      obtain rfl : i1 = t := by
        obtain ⟨hl, he⟩ := List.getElem?_eq_some_iff.mp hx1
        rw [List.getElem_range] at he; exact he
      have hi1 : i1 < (bD ns f i0 0 % 4).toNat := by have := (List.getElem?_eq_some_iff.mp hx1).1; rwa [List.length_range] at this
      refine ⟨_, _, (dg_name 8 nd), ?_⟩
      walk_at "env"
      refine ws_cons (ws_if (td_showO 7 rfl (td_cmp (ED.eq (ed_ix (ED.eq (ed_var 3 rfl) (show _ = D.lst (pool7.map .str) from rfl)) (ed_bin (ed_ix (ed_var 6 rfl) (ed_bin ed_int (ed_var 8 rfl) (by walk_at "b2")) (by walk_at "ix")) ed_int (by walk_at "b2")) (.l (at_getC (xs := pool7) (f := D.str) (a := "a") (by show _ ∧ _ < (7 : Int); omega)))) (show _ = D.str (plS (bD ns f i0 (1 + (i1 : Int)))) from rfl)) (ed_var 7 rfl) (c2_notInStr (.lst _)) (by rfl))) (fun hc1 => ?_) (fun hc1 => ?_))
      · skip
        have hst := ptQ_new (by simpa using hc1)
        refine ws_cons (ws_append 7 rfl (ED.eq (ed_ix (ED.eq (ed_var 3 rfl) (show _ = D.lst (pool7.map .str) from rfl)) (ed_bin (ed_ix (ed_var 6 rfl) (ed_bin ed_int (ed_var 8 rfl) (by walk_at "b2")) (by walk_at "ix")) ed_int (by walk_at "b2")) (.l (at_getC (xs := pool7) (f := D.str) (a := "a") (by show _ ∧ _ < (7 : Int); omega)))) (show _ = D.str (plS (bD ns f i0 (1 + (i1 : Int)))) from rfl)) (by first | (have h1 := ptQ_len (bD ns f i0) i1; rw [List.length_map, sizeLine_eq]; omega) | (rw [List.length_map, dvsQ_len, sizeLine_eq]; omega) | (rw [List.length_map, ussQ_len, sizeLine_eq]; omega) | (rw [List.length_map, qBs_len, sizeLine_eq]; omega)) ?_ (fun h => ps_expr (pe_bm PySem.F.plainAttrs_list PySem.F.slot_list_append PySem.F.type_list_append mt_append (pv 7) h)))
        walk_at "env"
        refine ws_nil ?_
        refine ws_nil ?_
        refine ⟨?_, True.intro⟩
        rw [hst]
        first | rfl | (rw [List.map_append]; rfl)
      · skip
        have hst := ptQ_old (by simpa using hc1)
        refine ws_nil ?_
        refine ws_nil ?_
        refine ⟨?_, True.intro⟩
        rw [hst]
        first | rfl | (rw [List.map_append]; rfl)
    · intro u1 hP1
      walk_at "env"
      rw [List.length_range]
      refine ws_cons (ws_setO 9 nd (eo_lst ad_nil) ?_)
      walk_at "env"
      refine ws_cons (ws_forU (List.range ((bD ns f i0 5 % 4).toNat)) (fun (i : Nat) => D.int (i : Int)) rfl (id_range1 (by rfl) B.«range» (ed_bin (ed_ix (ed_var 6 rfl) ed_int (by walk_at "ix")) ed_int (by walk_at "b2")) (by walk_at "side")) (by exact rngD0 _) (U := Sl × Sl × Sl) (fun i u => [(9, .ow (.lst ((dvsQ (bD ns f i0) i).map BDev.d))), (8, u.1), (11, u.2.1), (12, u.2.2)]) (fun r => (r.getD 8 .no, r.getD 11 .no, r.getD 12 .no)) (fun _ => True) (rfl) (True.intro) ?_ ?_)
      · intro i2 t u2 hx2 hP2
        obtain rfl : i2 = t := by
          obtain ⟨hl, he⟩ := List.getElem?_eq_some_iff.mp hx2
          rw [List.getElem_range] at he; exact he
        have hi2 : i2 < (bD ns f i0 5 % 4).toNat := by have := (List.getElem?_eq_some_iff.mp hx2).1; rwa [List.length_range] at this
        refine ⟨_, _, (dg_name 8 nd), ?_⟩
        walk_at "env"
        refine ws_cons (ws_setO 11 nd (EO.eq (c' := .lst [.int (bD ns f i0 ((6 + 6 * (i2 : Int)) + 0)), .int (bD ns f i0 ((6 + 6 * (i2 : Int)) + 1)), .int (bD ns f i0 ((6 + 6 * (i2 : Int)) + 2)), .int (bD ns f i0 ((6 + 6 * (i2 : Int)) + 3)), .int (bD ns f i0 ((6 + 6 * (i2 : Int)) + 4)), .int (bD ns f i0 ((6 + 6 * (i2 : Int)) + 5))]) (eo_slice (ed_var 6 rfl) (some_part (ed_bin ed_int (ed_bin ed_int (ed_var 8 rfl) (by walk_at "b2")) (by walk_at "b2"))) (some_part (ed_bin ed_int (ed_bin ed_int (ed_var 8 rfl) (by walk_at "b2")) (by walk_at "b2")))) (by rw [show 12 + 6 * (i2 : Int) = (6 + 6 * (i2 : Int)) + 6 by omega, cut6 (by omega) (by omega)]; rfl)) ?_)
        refine ws_share 11 rfl ?_
        walk_at "env"
        refine ws_cons (ws_setO 12 nd (eo_lst (ad_cons (ED.eq (ed_ix (ED.eq (ed_var 3 rfl) (show _ = D.lst (pool7.map .str) from rfl)) (ed_bin (ed_ix (ed_var 11 rfl) ed_int (by walk_at "ix")) ed_int (by walk_at "b2")) (.l (at_getC (xs := pool7) (f := D.str) (a := "a") (by show _ ∧ _ < (7 : Int); omega)))) (show _ = D.str (plS (bD ns f i0 ((6 + 6 * (i2 : Int)) + 1))) from rfl)) (ad_cons (ED.eq (ed_ix (ED.eq (ed_var 3 rfl) (show _ = D.lst (pool7.map .str) from rfl)) (ed_bin (ed_ix (ed_var 11 rfl) ed_int (by walk_at "ix")) ed_int (by walk_at "b2")) (.l (at_getC (xs := pool7) (f := D.str) (a := "a") (by show _ ∧ _ < (7 : Int); omega)))) (show _ = D.str (plS (bD ns f i0 ((6 + 6 * (i2 : Int)) + 2))) from rfl)) (ad_cons (ED.eq (ed_ix (ED.eq (ed_var 3 rfl) (show _ = D.lst (pool7.map .str) from rfl)) (ed_bin (ed_ix (ed_var 11 rfl) ed_int (by walk_at "ix")) ed_int (by walk_at "b2")) (.l (at_getC (xs := pool7) (f := D.str) (a := "a") (by show _ ∧ _ < (7 : Int); omega)))) (show _ = D.str (plS (bD ns f i0 ((6 + 6 * (i2 : Int)) + 3))) from rfl)) ad_nil)))) ?_)
        refine ws_share 12 rfl ?_
        walk_at "env"
        refine ws_cons (ws_append 9 rfl (ed_tup (ad_cons (ed_ix (ed_lst (eo_lst (ad_cons ed_str (ad_cons ed_str ad_nil)))) (ed_bin (ed_ix (ed_var 11 rfl) ed_int (by walk_at "ix")) ed_int (by walk_at "b2")) (ix_kind _)) (ad_cons (ed_ix (ed_var 12 rfl) ed_int (by walk_at "ix")) (ad_cons (ed_ix (ed_var 12 rfl) ed_int (by walk_at "ix")) (ad_cons (ed_ix (ed_var 12 rfl) ed_int (by walk_at "ix")) (ad_cons (ed_bin ed_int (ed_bin (ed_ix (ed_var 11 rfl) ed_int (by walk_at "ix")) ed_int (by walk_at "b2")) (by walk_at "b2")) (ad_cons (ed_bin ed_int (ed_bin (ed_bin (ed_ix (ed_var 11 rfl) ed_int (by walk_at "ix")) ed_int (by walk_at "b2")) ed_int (by walk_at "b2")) (by walk_at "b2")) ad_nil))))))) (by first | (have h1 := ptQ_len (bD ns f i0) i1; rw [List.length_map, sizeLine_eq]; omega) | (rw [List.length_map, dvsQ_len, sizeLine_eq]; omega) | (rw [List.length_map, ussQ_len, sizeLine_eq]; omega) | (rw [List.length_map, qBs_len, sizeLine_eq]; omega)) ?_ (fun h => ps_expr (pe_bm PySem.F.plainAttrs_list PySem.F.slot_list_append PySem.F.type_list_append mt_append (pv 9) h)))
        walk_at "env"
        refine ws_nil ?_
        refine ⟨?_, True.intro⟩
        rw [dvsQ_succ, List.map_append]
        rfl
      · intro u2 hP2
        walk_at "env"
        rw [List.length_range]
        refine ws_cons (ws_setO 10 nd (eo_lst ad_nil) ?_)
        walk_at "env"
        refine ws_cons (ws_forU (List.range (unQ (bD ns f i0) i0)) (fun (i : Nat) => D.int (i : Int)) rfl (id_range1 (by rfl) B.«range» (ed_callB (id := "min") (by rfl) B.«min» bb_min (ad_cons (ed_var 5 rfl) (ad_cons (ed_bin (ed_ix (ed_var 6 rfl) ed_int (by walk_at "ix")) ed_int (by walk_at "b2")) ad_nil)) (bc_min2 rfl)) (by walk_at "side")) (by exact rngD0 _) (U := Sl × Sl) (fun i u => [(10, .ow (.lst ((ussQ (bD ns f i0) (qBs ns f i0) i0 i).map BUse.d))), (8, u.1), (13, u.2)]) (fun r => (r.getD 8 .no, r.getD 13 .no)) (fun _ => True) (rfl) (True.intro) ?_ ?_)
        · intro i3 t u3 hx3 hP3
          obtain rfl : i3 = t := by
            obtain ⟨hl, he⟩ := List.getElem?_eq_some_iff.mp hx3
            rw [List.getElem_range] at he; exact he
          have hi3 : i3 < unQ (bD ns f i0) i0 := by have := (List.getElem?_eq_some_iff.mp hx3).1; rwa [List.length_range] at this
          have hoP := qBs_P ns (f := f) (k := i0) (by omega) (mod_nat (bD ns f i0 (31 + (i3 : Int))) (k := i0) (by omega))
          obtain ⟨o, ho⟩ : ∃ o, o = (qBs ns f i0).getD (bD ns f i0 (31 + (i3 : Int)) % (i0 : Int)).toNat bk0 := ⟨_, rfl⟩
          rw [← ho] at hoP
          refine ⟨_, _, (dg_name 8 nd), ?_⟩
          walk_at "env"
          refine ws_cons (ws_set 13 nd (ED.eq (ed_ixO 4 rfl (ed_bin (ed_ix (ed_var 6 rfl) (ed_bin ed_int (ed_var 8 rfl) (by walk_at "b2")) (by walk_at "ix")) (ed_var 5 rfl) (by walk_at "b2")) (at_getC (f := rwB) (a := bk0) (by rw [qBs_len]; exact ⟨Int.emod_nonneg _ (by omega), Int.emod_lt_of_pos _ (by omega)⟩))) (show _ = rwB o by rw [ho]; rfl)) ?_)
          walk_at "env"
          refine ws_cons (ws_append 10 rfl (ed_tup (ad_cons (ed_ix (ed_var 13 rfl) ed_int (by walk_at "ix")) (ad_cons (ed_callT (T := "tuple") (by rfl) B.«tuple» bb_tuple (ad_cons (ed_lst (eo_map2 [("i", 14)] (List.range o.P.length) (fun (i : Nat) => D.int (i : Int)) (fun (t : Nat) => plS (bD ns f i0 (33 + 5 * (i3 : Int) + (t : Int)))) (D.str) rfl nd (blkOk_by (N := ["script", "first", "many", "pool", "rows", "k", "draws", "ports", "j", "devices", "uses", "row", "names", "other", "i"]) (sc := defScope s_law_qblocks) (by decide +kernel)) (id_range1 (by rfl) B.«range» (ed_callB (id := "len") (by rfl) B.«len» bb_len (ad_cons (ed_ix (ed_var 13 rfl) ed_int (by walk_at "ix")) ad_nil) (by walk_at "bc")) (by rw [List.length_map]; omega)) (by rw [List.length_map, Int.toNat_natCast]; exact rngD0 _) (fun t hxm => by have hxr := List.mem_range.mp hxm; exact ⟨_, by rfl, fun _ _ _ _ _ => ⟨(dg_name 14 nd), tds_nil, (ED.eq (ed_ix (ED.eq (ed_var 3 rfl) (show _ = D.lst (pool7.map .str) from rfl)) (ed_bin (ed_ix (ed_var 6 rfl) (ed_bin (ed_bin ed_int (ed_bin ed_int (ed_var 8 rfl) (by walk_at "b2")) (by walk_at "b2")) (ed_var 14 rfl) (by walk_at "b2")) (by walk_at "ix")) ed_int (by walk_at "b2")) (.l (at_getC (xs := pool7) (f := D.str) (a := "a") (by show _ ∧ _ < (7 : Int); omega)))) (show _ = D.str (plS (bD ns f i0 (33 + 5 * (i3 : Int) + (t : Int)))) from rfl))⟩⟩) (by rw [List.length_range, sizeLine_eq]; omega))) ad_nil) (by walk_at "bc")) ad_nil))) (by first | (have h1 := ptQ_len (bD ns f i0) i1; rw [List.length_map, sizeLine_eq]; omega) | (rw [List.length_map, dvsQ_len, sizeLine_eq]; omega) | (rw [List.length_map, ussQ_len, sizeLine_eq]; omega) | (rw [List.length_map, qBs_len, sizeLine_eq]; omega)) ?_ (fun h => ps_expr (pe_bm PySem.F.plainAttrs_list PySem.F.slot_list_append PySem.F.type_list_append mt_append (pv 10) h)))
          walk_at "env"
          refine ws_nil ?_
          refine ⟨?_, True.intro⟩
          rw [ussQ_succ, List.map_append, ho]
          rfl
        · intro u3 hP3
          walk_at "env"
          rw [List.length_range]
          refine ws_share 7 rfl ?_
          walk_at "env"
          refine ws_share 9 rfl ?_
          walk_at "env"
          refine ws_share 10 rfl ?_
          walk_at "env"
          refine ws_cons (ws_append 4 rfl (ed_tup (ad_cons (ED.eq (ed_bin (ed_bin (ed_sliceS (ed_call G_law_name (hr.mono (by decide)) (by rfl) (ad_cons (ed_ix (ed_var 6 rfl) ed_int (by walk_at "ix")) ad_nil) (by exact .mk _ (dr_lo _ _ _).1)) (nmOf_len _) no_part (some_part ed_int)) ed_str (b2_addS (q8_len _))) (ed_callT (T := "str") (by rfl) B.«str» bb_str (ad_cons (ed_var 5 rfl) ad_nil) (bc_strI (log_small hi0 (by omega)))) (b2_addS (q9_len _ (by omega)))) (show _ = D.str (qStr (bD ns f i0 49) i0) by rw [cut8]; rfl)) (ad_cons (ed_var 7 rfl) (ad_cons (ed_var 9 rfl) (ad_cons (ed_var 10 rfl) ad_nil))))) (by first | (have h1 := ptQ_len (bD ns f i0) i1; rw [List.length_map, sizeLine_eq]; omega) | (rw [List.length_map, dvsQ_len, sizeLine_eq]; omega) | (rw [List.length_map, ussQ_len, sizeLine_eq]; omega) | (rw [List.length_map, qBs_len, sizeLine_eq]; omega)) ?_ (fun h => ps_expr (pe_bm PySem.F.plainAttrs_list PySem.F.slot_list_append PySem.F.type_list_append mt_append (pv 4) h)))
          walk_at "env"
          refine ws_nil ?_
          refine ⟨?_, True.intro⟩
          rw [qBs, List.map_append]
          rfl
  · intro u0 hP0
    walk_at "env"
    rw [List.length_range]
    refine ws_share 4 rfl ?_
    walk_at "env"
    refine ws_cons (ws_ret (ED.eq (ed_var 4 rfl) ?_) (Or.inl rfl))
    rfl
abbrev s_law_qblock_lines : Stmt := top 34
theorem sc_law_qblock_lines : FnScope ["rows", "lines", "name", "ports", "devices", "uses", "device", "used", "nets", "element"] ["rows"] (defScope s_law_qblock_lines) := ⟨rfl, rfl, rfl, by decide +kernel, rfl, by decide +kernel, by decide +kernel⟩
theorem ok_law_qblock_lines {f : Addr} {fd : FuncData} (F : Fun K "_law_qblock_lines" "_law_qblock_lines" s_law_qblock_lines f fd) (B : Bt mg) (KC : Kt K mg) (KL : Lt K mg) (XF : Xt K mg)  :
    FnOk P w K mg base CX0 1 f fd ["rows"] (spR K R_law_qblock_lines) := by
  refine fn_ok (k := 0) F sc_law_qblock_lines (fun ds d h => by cases h; rfl) fun ds d hR cdv A outer s H E hr => ?_
  have nd := sc_law_qblock_lines.nd
  have hu := hr.units
  rcases hR with ⟨bs, t⟩
  have hbl := t.few
  have hll := lnsT_len t
  have l8 := lens
  walk_at "en"
  refine ws_cons (ws_setO 1 nd (eo_lst ad_nil) ?_)
  walk_at "env"
  refine ws_cons (ws_forU (bs) (rwB) rfl (id_list (ed_var 0 rfl)) (by rfl) (U := Sl × Sl × Sl × Sl × Sl × Sl × Sl) (fun i u => [(1, .ow (.lst (lnT (lnsT (bs.take i))))), (2, u.1), (3, u.2.1), (4, u.2.2.1), (5, u.2.2.2.1), (6, u.2.2.2.2.1), (7, u.2.2.2.2.2.1), (8, u.2.2.2.2.2.2)]) (fun r => (r.getD 2 .no, r.getD 3 .no, r.getD 4 .no, r.getD 5 .no, r.getD 6 .no, r.getD 7 .no, r.getD 8 .no)) (fun _ => True) (rfl) (True.intro) ?_ ?_)
  · intro i0 x u0 hx0 hP0
    have hxm0 := List.mem_of_getElem? hx0
    have okx := t.bk x hxm0
    have wb : WLn (.b x) := ⟨okx.n, okx.p, okx.few.1⟩
    refine ⟨_, _, (dg_tup rfl (dgs_cons (dg_name 2 nd) (dgs_cons (dg_name 3 nd) (dgs_cons (dg_name 4 nd) (dgs_cons (dg_name 5 nd) dgs_nil))))), ?_⟩
    walk_at "env"
    refine ws_cons (ws_append 1 rfl (ED.eq (ed_join (zs := (Ln.b x).ws) ed_str (.lst _) (ED.eq (ed_lst (eo_cat (ed_lst (eo_lst (ad_cons ed_str (ad_cons (ed_var 2 rfl) ad_nil)))) (ed_lst (eo_callT (T := "list") (by rfl) B.«list» bb_list (ad_cons (ed_var 3 rfl) ad_nil) (by walk_at "bo"))) (by have := okx.few; simp only [List.length_map, List.length_cons, List.length_nil]; rw [sizeLine_eq]; omega))) (show _ = D.lst ((Ln.b x).ws.map .str) from rfl)) (by have h1 := sumL_le (k := 41) (zs := (Ln.b x).ws) (fun w hm => (wb.ok.2.2 w hm).n); have h7 := wb.ok.2.1; have := l8.2.2.2.1; rw [this]; have : 41 * ((Ln.b x).ws).length ≤ 41 * 12 := Nat.mul_le_mul_left _ h7; omega)) (show _ = D.str (lnW (Ln.b x).ws) from rfl)) (by have h1 := lnsT_take t i0; unfold lnT; simp only [List.length_map, List.length_append]; rw [sizeLine_eq]; first | (have h2 := prB_len okx i1 0; omega) | (have h2 := prB_len okx x.V.length i2; omega) | omega) ?_ (fun h => ps_expr (pe_bm PySem.F.plainAttrs_list PySem.F.slot_list_append PySem.F.type_list_append mt_append (pv 1) h)))
    walk_at "env"
    refine ws_cons (ws_forU (x.V) (BDev.d) rfl (id_list (ed_var 4 rfl)) (by rfl) (U := Sl) (fun i u => [(1, .ow (.lst (lnT (lnsT (bs.take i0)) ++ lnT (prB x i 0)))), (6, u)]) (fun r => (r.getD 6 .no)) (fun _ => True) (rfl) (True.intro) ?_ ?_)
    · intro i1 v u1 hx1 hP1
      have wv : WLn (.d v) := t.dv hxm0 (List.mem_of_getElem? hx1)
      refine ⟨_, _, (dg_name 6 nd), ?_⟩
      walk_at "env"
      refine ws_cons (ws_append 1 rfl (ED.eq (ed_join (zs := (Ln.d v).ws) ed_str (.lst _) (ED.eq (ed_lst (eo_cat (ed_lst (eo_lst (ad_cons ed_str ad_nil))) (ed_lst (eo_map2 [("element", 9)] ((Ln.d v).wd.tail) (wdE) (wdT) (D.str) rfl nd (blkOk_by (N := ["rows", "lines", "name", "ports", "devices", "uses", "device", "used", "nets", "element"]) (sc := defScope s_law_qblock_lines) (by decide +kernel)) (id_tup (ED.eq (ed_var 6 rfl) (show _ = D.tup ((Ln.d v).wd.tail.map wdE) from rfl))) (rfl) (fun w hxm => ⟨_, by rfl, fun _ _ _ _ _ => ⟨(dg_name 9 nd), tds_nil, (by rcases w with y | y; exact (ed_callT (T := "str") (by rfl) B.«str» bb_str (ad_cons (ed_var 9 rfl) ad_nil) bc_strS); exact (ed_callT (T := "str") (by rfl) B.«str» bb_str (ad_cons (ed_var 9 rfl) ad_nil) (bc_strI (wv.rd y (List.mem_of_mem_tail hxm)).sm.log)))⟩⟩) (by show 6 ≤ _; rw [sizeLine_eq]; omega))) (by show 1 + 6 ≤ _; rw [sizeLine_eq]; omega))) (show _ = D.lst ((Ln.d v).ws.map .str) from rfl)) (by have h1 := sumL_le (k := 41) (zs := (Ln.d v).ws) (fun w hm => (wv.ok.2.2 w hm).n); have h7 := wv.ok.2.1; have := l8.2.2.2.1; rw [this]; have : 41 * ((Ln.d v).ws).length ≤ 41 * 12 := Nat.mul_le_mul_left _ h7; omega)) (show _ = D.str (lnW (Ln.d v).ws) from rfl)) (by have h1 := lnsT_take t i0; unfold lnT; simp only [List.length_map, List.length_append]; rw [sizeLine_eq]; first | (have h2 := prB_len okx i1 0; omega) | (have h2 := prB_len okx x.V.length i2; omega) | omega) ?_ (fun h => ps_expr (pe_bm PySem.F.plainAttrs_list PySem.F.slot_list_append PySem.F.type_list_append mt_append (pv 1) h)))
      walk_at "env"
      refine ws_nil ?_
      refine ⟨?_, True.intro⟩
      rw [prB_dev hx1, lnT_app, ← List.append_assoc]
      rfl
    · intro u1 hP1
      walk_at "env"
      refine ws_cons (ws_forU (x.U) (BUse.d) rfl (id_list (ed_var 5 rfl)) (by rfl) (U := Sl × Sl) (fun i u => [(1, .ow (.lst (lnT (lnsT (bs.take i0)) ++ lnT (prB x x.V.length i)))), (7, u.1), (8, u.2)]) (fun r => (r.getD 7 .no, r.getD 8 .no)) (fun _ => True) (rfl) (True.intro) ?_ ?_)
      · intro i2 u u2 hx2 hP2
        have hum := List.mem_of_getElem? hx2
        have wu : WLn (.u u) := ⟨(okx.u u hum).1, (okx.u u hum).2, okx.fu u hum⟩
        refine ⟨_, _, (dg_tup rfl (dgs_cons (dg_name 7 nd) (dgs_cons (dg_name 8 nd) dgs_nil))), ?_⟩
        walk_at "env"
        refine ws_cons (ws_append 1 rfl (ED.eq (ed_join (zs := (Ln.u u).ws) ed_str (.lst _) (ED.eq (ed_lst (eo_cat (ed_lst (eo_lst (ad_cons ed_str (ad_cons (ed_var 7 rfl) ad_nil)))) (ed_lst (eo_callT (T := "list") (by rfl) B.«list» bb_list (ad_cons (ed_var 8 rfl) ad_nil) (by walk_at "bo"))) (by have := okx.fu u hum; simp only [List.length_map, List.length_cons, List.length_nil]; rw [sizeLine_eq]; omega))) (show _ = D.lst ((Ln.u u).ws.map .str) from rfl)) (by have h1 := sumL_le (k := 41) (zs := (Ln.u u).ws) (fun w hm => (wu.ok.2.2 w hm).n); have h7 := wu.ok.2.1; have := l8.2.2.2.1; rw [this]; have : 41 * ((Ln.u u).ws).length ≤ 41 * 12 := Nat.mul_le_mul_left _ h7; omega)) (show _ = D.str (lnW (Ln.u u).ws) from rfl)) (by have h1 := lnsT_take t i0; unfold lnT; simp only [List.length_map, List.length_append]; rw [sizeLine_eq]; first | (have h2 := prB_len okx i1 0; omega) | (have h2 := prB_len okx x.V.length i2; omega) | omega) ?_ (fun h => ps_expr (pe_bm PySem.F.plainAttrs_list PySem.F.slot_list_append PySem.F.type_list_append mt_append (pv 1) h)))
        walk_at "env"
        refine ws_nil ?_
        refine ⟨?_, True.intro⟩
        rw [prB_use hx2, lnT_app, ← List.append_assoc]
        rfl
      · intro u2 hP2
        walk_at "env"
        rw [prB_end]
        refine ws_nil ?_
        refine ⟨?_, True.intro⟩
        rw [lnsT_snoc' hx0, lnT_app]
        rfl
  · intro u0 hP0
    walk_at "env"
    rw [List.take_length]
    refine ws_share 1 rfl ?_
    walk_at "env"
    refine ws_cons (ws_ret (ED.eq (ed_var 1 rfl) ?_) (Or.inl rfl))
    rfl
abbrev s_law_line : Stmt := top 35
theorem sc_law_line : FnScope ["lines", "e"] ["lines"] (defScope s_law_line) := ⟨rfl, rfl, rfl, by decide +kernel, rfl, by decide +kernel, by decide +kernel⟩
theorem ok_law_line {f : Addr} {fd : FuncData} (F : Fun K "_law_line" "_law_line" s_law_line f fd) (B : Bt mg) (KC : Kt K mg) (KL : Lt K mg) (XF : Xt K mg) (G_parse_schematic : Fn P w K mg base "parse_schematic" 10 R_parse_schematic) (GX_parse_schematic : FnXG P w K mg base "parse_schematic" 10 RX_parse_schematic) :
    FnOk P w K mg base CX0 11 f fd ["lines"] (spR K R_law_line) := by
  refine fn_ok (k := 10) F sc_law_line (fun ds d h => by cases h; rfl) fun ds d hR cdv A outer s H E hr => ?_
  have nd := sc_law_line.nd
  have hu := hr.units
  rcases hR with ⟨L, k, hL⟩
  walk_at "en"
  rcases hL with ⟨bs, t⟩ | ⟨W, _, hP⟩
  · skip
    refine ws_cons (ws_try0 ?_)
    refine ws_cons (ws_exprD (ed_call G_parse_schematic (hr.mono (by decide)) (by rfl) (ad_cons (ED.eq (ed_join (zs := ((lnsT bs).map Ln.ws).map lnW) ed_str (.lst _) (ed_var 0 rfl) (by have := txS_room2 t; exact Nat.le_trans this (by decide))) (show _ = D.str (txS bs) from congrArg D.str (txS_ws bs))) ad_nil) (by exact .mk bs t)) ?_)
    refine ws_nil ?_
    refine ws_cons (ws_ret (ED.eq ed_int ?_) (Or.inl rfl))
    rfl
  · skip
    refine ws_cons (ws_tryFS (ns := ["line"]) (ds := [.int k]) 1 nd XF.«m1» (by rfl) (fun pn xe po => ?_) (fun ea eC ex eo pn ehC ehz ehf => ?_))
    · skip
      exact xg_head (xg_expr (eg_call GX_parse_schematic (hr.mono (by decide)) (by rfl) (ad_cons (ED.eq (ed_join (zs := W.map lnW) ed_str (.lst _) (ed_var 0 rfl) (by have := txM_room hP.ok.1 hP.ok.2.1; exact Nat.le_trans this (by decide))) (show _ = D.str (txW W) from rfl)) ad_nil) (by exact .mk W _ hP)))
    · skip
      walk_at "env"
      refine ws_cons (ws_if (td_tw (tw_and (td_truth (ed_isEF XF.«InvalidText» XF.«i1» ehC ehz ehf (by rfl) B.«isinstance» (by rfl) (ed_var 1 rfl)) rfl) (fun _ => tw_and1 (td_truth (ed_callB (id := "isinstance") (by rfl) B.«isinstance» bb_isinstance (ad_cons (ed_xfld 0 XF.«f1» ehC ehz ehf (ed_var 1 rfl)) (ad_cons (ed_ty (n := "int") (by rfl) B.«int» bb_int) ad_nil)) (bc_isi (c := "int") (by rfl) (by rfl))) rfl)))) (fun hc1 => ?_) (fun hc1 => ?_))
      · skip
        clear hc1
        refine ws_cons (ws_ret (ED.eq (ed_xfld 0 XF.«f1» ehC ehz ehf (ed_var 1 rfl)) ?_) (Or.inl rfl))
        rfl
      · skip
        exfalso; simp at hc1
abbrev s_law_wrong_line : Stmt := top 36
theorem sc_law_wrong_line : FnScope ["draw", "more", "name", "integer", "wrong", "lines"] ["draw", "more", "name"] (defScope s_law_wrong_line) := ⟨rfl, rfl, rfl, by decide +kernel, rfl, by decide +kernel, by decide +kernel⟩
theorem ok_law_wrong_line {f : Addr} {fd : FuncData} (F : Fun K "_law_wrong_line" "_law_wrong_line" s_law_wrong_line f fd) (B : Bt mg) (KC : Kt K mg) (KL : Lt K mg) (XF : Xt K mg) (G_law_qbad_integer : Fn P w K mg base "_law_qbad_integer" 1 R_law_qbad_integer) (G_law_qbad_name : Fn P w K mg base "_law_qbad_name" 1 R_law_qbad_name) :
    FnOk P w K mg base CX0 2 f fd ["draw", "more", "name"] (spR K R_law_wrong_line) := by
  refine fn_ok (k := 1) F sc_law_wrong_line (fun ds d h => by cases h; rfl) fun ds d hR cdv A outer s H E hr => ?_
  have nd := sc_law_wrong_line.nd
  have hu := hr.units
  rcases hR with ⟨d, m, n, hd, hm, hN⟩
  have hI : (badIw m).length ≤ 41 := (badI_no m).2.n
  have hB : (badAt m).length ≤ 41 := (badAt_w m).n
  walk_at "en"
  refine ws_cons (ws_set 3 nd (ed_call G_law_qbad_integer (hr.mono (by decide)) (by rfl) (ad_cons (ed_var 1 rfl) ad_nil) (by exact .mk _ hm)) ?_)
  walk_at "env"
  refine ws_cons (ws_set 4 nd (ed_call G_law_qbad_name (hr.mono (by decide)) (by rfl) (ad_cons (ed_var 1 rfl) ad_nil) (by exact .mk _ hm)) ?_)
  walk_at "env"
  refine ws_cons (ws_setO 5 nd (eo_lst (ad_cons ed_str (ad_cons ed_str (ad_cons ed_str (ad_cons ed_str (ad_cons ed_str (ad_cons ed_str (ad_cons (ed_bin ed_str (ed_var 2 rfl) (b2_addS (add_ok (show ("block " : Str).length ≤ 100 by decide +kernel) hN))) (ad_cons (ed_bin ed_str (ed_var 4 rfl) (b2_addS (add_ok (show ("block " : Str).length ≤ 100 by decide +kernel) hB))) (ad_cons ed_str (ad_cons (ed_bin (ed_bin ed_str (ed_var 4 rfl) (b2_addS (add_ok (show ("block zz " : Str).length ≤ 100 by decide +kernel) hB))) ed_str (b2_addS (add_ok2 (show ("block zz " : Str).length ≤ 100 by decide +kernel) hB (show (" a" : Str).length ≤ 100 by decide +kernel)))) ad_nil))))))))))) ?_)
  refine ws_share 5 rfl ?_
  walk_at "env"
  refine ws_cons (ws_setO 5 nd (EO.eq (c' := .lst (((wsS m n).take 16).map .str)) (eo_cat (ed_var 5 rfl) (ed_lst (eo_lst (ad_cons ed_str (ad_cons ed_str (ad_cons ed_str (ad_cons ed_str (ad_cons ed_str (ad_cons (ed_bin (ed_bin ed_str (ed_var 3 rfl) (b2_addS (add_ok (show ("device n a b c " : Str).length ≤ 100 by decide +kernel) hI))) ed_str (b2_addS (add_ok2 (show ("device n a b c " : Str).length ≤ 100 by decide +kernel) hI (show (" 1" : Str).length ≤ 100 by decide +kernel)))) ad_nil)))))))) (by simp only [List.length_map, List.length_take, List.length_cons, List.length_nil, wsS]; rw [sizeLine_eq]; decide)) rfl) ?_)
  refine ws_share 5 rfl ?_
  walk_at "env"
  refine ws_cons (ws_setO 5 nd (EO.eq (c' := .lst (((wsS m n).take 21).map .str)) (eo_cat (ed_var 5 rfl) (ed_lst (eo_lst (ad_cons (ed_bin ed_str (ed_var 3 rfl) (b2_addS (add_ok (show ("device n a b c 1 " : Str).length ≤ 100 by decide +kernel) hI))) (ad_cons (ed_bin (ed_bin ed_str (ed_var 4 rfl) (b2_addS (add_ok (show ("device n " : Str).length ≤ 100 by decide +kernel) hB))) ed_str (b2_addS (add_ok2 (show ("device n " : Str).length ≤ 100 by decide +kernel) hB (show (" b c 1 1" : Str).length ≤ 100 by decide +kernel)))) (ad_cons (ed_bin (ed_bin ed_str (ed_var 4 rfl) (b2_addS (add_ok (show ("device n a b " : Str).length ≤ 100 by decide +kernel) hB))) ed_str (b2_addS (add_ok2 (show ("device n a b " : Str).length ≤ 100 by decide +kernel) hB (show (" 1 1" : Str).length ≤ 100 by decide +kernel)))) (ad_cons ed_str (ad_cons ed_str ad_nil))))))) (by simp only [List.length_map, List.length_take, List.length_cons, List.length_nil, wsS]; rw [sizeLine_eq]; decide)) rfl) ?_)
  refine ws_share 5 rfl ?_
  walk_at "env"
  refine ws_cons (ws_setO 5 nd (EO.eq (c' := .lst (((wsS m n).take 29).map .str)) (eo_cat (ed_var 5 rfl) (ed_lst (eo_lst (ad_cons ed_str (ad_cons ed_str (ad_cons ed_str (ad_cons (ed_bin ed_str (ed_var 2 rfl) (b2_addS (add_ok (show ("use " : Str).length ≤ 100 by decide +kernel) hN))) (ad_cons (ed_bin (ed_bin ed_str (ed_var 2 rfl) (b2_addS (add_ok (show ("use " : Str).length ≤ 100 by decide +kernel) hN))) ed_str (b2_addS (add_ok2 (show ("use " : Str).length ≤ 100 by decide +kernel) hN (show (" a" : Str).length ≤ 100 by decide +kernel)))) (ad_cons (ed_bin (ed_bin ed_str (ed_var 2 rfl) (b2_addS (add_ok (show ("use " : Str).length ≤ 100 by decide +kernel) hN))) ed_str (b2_addS (add_ok2 (show ("use " : Str).length ≤ 100 by decide +kernel) hN (show (" a b c y" : Str).length ≤ 100 by decide +kernel)))) (ad_cons (ed_bin ed_str (ed_var 4 rfl) (b2_addS (add_ok (show ("use " : Str).length ≤ 100 by decide +kernel) hB))) (ad_cons ed_str ad_nil)))))))))) (by simp only [List.length_map, List.length_take, List.length_cons, List.length_nil, wsS]; rw [sizeLine_eq]; decide)) rfl) ?_)
  refine ws_share 5 rfl ?_
  walk_at "env"
  refine ws_cons (ws_ret (ED.eq (ED.eq (ed_ix (ED.eq (d' := .lst ((wsS m n).map .str)) (ed_var 5 rfl) rfl) (ed_bin (ed_var 0 rfl) (ED.eq (ed_callB (id := "len") (by rfl) B.«len» bb_len (ad_cons (ed_var 5 rfl) ad_nil) (by walk_at "bc")) (show _ = (.int 29) from by rfl)) (by walk_at "b2")) (.l (at_getI (xs := wsS m n) (f := D.str) (i := d % 29) (a := "") (by show _ ∧ _ < (29 : Int); omega)))) (show D.str ((wsS m n).getD (d % 29).toNat "") = _ by rw [ws_str, wAt_get])) ?_) (Or.inl rfl))
  rfl
abbrev s_law : Stmt := top 37
theorem sc_law : FnScope ["script", "rows", "lines", "draws", "k", "used", "more", "wrong", "first", "sixty", "at", "name", "line"] ["script"] (defScope s_law) := ⟨rfl, rfl, rfl, by decide +kernel, rfl, by decide +kernel, by decide +kernel⟩
theorem ok_law {f : Addr} {fd : FuncData} (F : Fun K "law" "law" s_law f fd) (B : Bt mg) (KC : Kt K mg) (KL : Lt K mg) (XF : Xt K mg) (G_law_cell : Fn P w K mg base "_law_cell" 1 R_law_cell) (G_law_draws : Fn P w K mg base "_law_draws" 1 R_law_draws) (G_law_line : Fn P w K mg base "_law_line" 11 R_law_line) (G_law_qblock_lines : Fn P w K mg base "_law_qblock_lines" 1 R_law_qblock_lines) (G_law_qblocks : Fn P w K mg base "_law_qblocks" 2 R_law_qblocks) (G_law_wrong_line : Fn P w K mg base "_law_wrong_line" 2 R_law_wrong_line) :
    FnOk P w K mg base CX0 12 f fd ["script"] (spR K R_law) := by
  refine fn_ok (k := 11) F sc_law (fun ds d h => by cases h; rfl) fun ds d hR cdv A outer s H E hr => ?_
  have nd := sc_law.nd
  have hu := hr.units
  rcases hR with ⟨ns, hlen⟩
  obtain ⟨k4, hk4⟩ : ∃ k : Nat, k = (1 + cellAt ns 0 % 4).toNat := ⟨_, rfl⟩
  have hk9 : 1 ≤ k4 ∧ k4 ≤ 4 := by omega
  obtain ⟨Q, hQ⟩ : ∃ Q, Q = qBs ns 2 k4 := ⟨_, rfl⟩
  have t : TxS Q := by rw [hQ]; exact qBs_tx (by omega)
  have hQl : Q.length = k4 := by rw [hQ]; exact qBs_len ns 2 k4
  have hzz := q_nozz (ns := ns) (f := 2) (k := k4)
  rw [← hQ] at hzz
  have hP3 : ∀ b ∈ Q, b.P.length ≤ 3 := by rw [hQ]; exact q_P3 _ _ _
  have hl24 : (lnsT Q).length ≤ 24 := by rw [hQ]; exact few_l ns 2 hk9.2
  have hl1 : 1 ≤ (lnsT Q).length := lns_pos (by intro e; rw [e] at hQl; simp at hQl; omega)
  obtain ⟨r0, hr0⟩ : ∃ r, Q[0]? = some r := ⟨Q[0]'(by omega), List.getElem?_eq_getElem (by omega)⟩
  have okr : BkOk r0 := t.bk r0 (List.mem_of_getElem? hr0)
  have hr3 : r0.P.length ≤ 3 := hP3 r0 (List.mem_of_getElem? hr0)
  have tZ : TxS (Q ++ [bZ r0]) := bZ_tx t (by omega) hzz.1 hP3 hr0
  have hlZ := lnsT_len tZ
  have hE : PXs (((lnsT Q).map Ln.ws) ++ ([[""]] : List (List Str))) (((lnsT Q).length : Int) + 1) := by
    obtain ⟨ds, d, e⟩ := bs_snoc (bs := Q) (by omega)
    have td : TxS (ds ++ [d]) := by rw [← e]; exact t
    have h := px_at td (ww := [""]) (rr := []) (emp_bad2 (s := ⟨ds, some d⟩)).2 emp_bad2.1 (fun _ h => (by cases h)) (by simp)
    rw [← e] at h
    rwa [show ((1 : Nat) : Int) + ((lnsT Q).length : Int) = ((lnsT Q).length : Int) + 1 by omega] at h
  walk_at "en"
  refine ws_cons (ws_set 1 nd (ED.eq (ed_call G_law_qblocks (hr.mono (by decide)) (by rfl) (ad_cons (ed_var 0 rfl) (ad_cons ed_int (ad_cons (ed_bin ed_int (ed_bin (ed_callT (T := "int") (by rfl) B.«int» bb_int (ad_cons (ed_call G_law_cell (hr.mono (by decide)) (by rfl) (ad_cons (ed_var 0 rfl) (ad_cons ed_int ad_nil)) (by exact .mk _ _ (by omega))) ad_nil) (by walk_at "bc")) ed_int (by walk_at "b2")) (by walk_at "b2")) ad_nil))) (by exact .mk _ _ _ (by decide) (by omega))) (show _ = (D.lst (Q.map rwB)) from by rw [hQ, hk4])) ?_)
  walk_at "env"
  refine ws_cons (ws_set 2 nd (ED.eq (ed_call G_law_qblock_lines (hr.mono (by decide)) (by rfl) (ad_cons (ed_var 1 rfl) ad_nil) (by exact .mk _ t)) (show _ = (D.lst (((((lnsT Q).map Ln.ws)).map lnW).map D.str)) from by exact congrArg D.lst (lnT_ws _))) ?_)
  walk_at "env"
  refine ws_cons (ws_if (td_tw (tw_or (td_cmp (ed_call G_law_line (hr.mono (by decide)) (by rfl) (ad_cons (ed_var 2 rfl) ad_nil) (.mk _ _ (.ok Q t))) ed_int (by walk_at "c2")) (fun hb2 => (tw_or1 (td_cmp (ed_call G_law_line (hr.mono (by decide)) (by rfl) (ad_cons (ED.eq (d' := D.lst (((((lnsT Q).map Ln.ws) ++ ([[""]] : List (List Str))).map lnW).map D.str)) (ed_lst (eo_cat (ed_var 2 rfl) (ed_lst (eo_lst (ad_cons ed_str ad_nil))) (by simp only [List.length_map, List.length_append, List.length_take, List.length_drop, List.length_cons, List.length_nil]; rw [sizeLine_eq]; omega))) (by rw [ls_app83]; rfl)) ad_nil) (.mk _ _ (.bad _ _ hE))) (ed_bin (ED.eq (ed_callB (id := "len") (by rfl) B.«len» bb_len (ad_cons (ed_var 2 rfl) ad_nil) (by walk_at "bc")) (show _ = (.int ((lnsT Q).length : Int)) from by rw [List.length_map, List.length_map, List.length_map])) ed_int (by walk_at "b2")) (by walk_at "c2")))))) (fun hc1 => ?_) (fun hc1 => ?_))
  · skip
    exfalso; simp at hc1 <;> omega
  · skip
    clear hc1
    refine ws_nil ?_
    refine ws_cons (ws_set 3 nd (ed_call G_law_draws (hr.mono (by decide)) (by rfl) (ad_cons (ed_call G_law_cell (hr.mono (by decide)) (by rfl) (ad_cons (ed_var 0 rfl) (ad_cons ed_int ad_nil)) (by exact .mk _ _ (by omega))) (ad_cons ed_int ad_nil)) (by exact .mk _ _ (by omega) (by omega))) ?_)
    walk_at "env"
    refine ws_cons (ws_forU (List.range (6)) (fun (i : Nat) => D.int (i : Int)) rfl (id_range1 (by rfl) B.«range» ed_int (by walk_at "side")) (by exact rngD0 _) (U := Sl × Sl × Sl × Sl) (fun i u => [(4, u.1), (7, u.2.1), (10, u.2.2.1), (11, u.2.2.2)]) (fun r => (r.getD 4 .no, r.getD 7 .no, r.getD 10 .no, r.getD 11 .no)) (fun _ => True) (rfl) (True.intro) ?_ ?_)
    · intro i0 t u0 hx0 hP0
      obtain rfl : i0 = t := by
        obtain ⟨hl, he⟩ := List.getElem?_eq_some_iff.mp hx0
        rw [List.getElem_range] at he; exact he
      have hi0 : i0 < 6 := by have := (List.getElem?_eq_some_iff.mp hx0).1; rwa [List.length_range] at this
      obtain ⟨j9, hj9⟩ : ∃ j : Nat, (j : Int) = dr (cellAt ns 1) 16 (2 * (i0 : Int)) % ((lnsT Q).length : Int) := ⟨(dr (cellAt ns 1) 16 (2 * (i0 : Int)) % ((lnsT Q).length : Int)).toNat, by have := Int.emod_nonneg (dr (cellAt ns 1) 16 (2 * (i0 : Int))) (show ((lnsT Q).length : Int) ≠ 0 by omega); omega⟩
      have hj8 : (j9 : Int) < ((lnsT Q).length : Int) := by rw [hj9]; exact Int.emod_lt_of_pos _ (by omega)
      obtain ⟨ds, d, td, he, hnm⟩ := cut_ex Q t (j9 + 1) (by omega) (by omega)
      have hdk : nameB d.n = true := (td.bk d (by simp)).n
      obtain ⟨ww, hww⟩ : ∃ w, w = wAt (dr (cellAt ns 1) 16 14 + (i0 : Int)) d.n (dr (cellAt ns 1) 16 (2 * (i0 : Int) + 1)) := ⟨_, rfl⟩
      have hwm : ww ∈ wsW (dr (cellAt ns 1) 16 14 + (i0 : Int)) d.n := by rw [hww]; exact wAt_mem _ _ _
      have hbad := ws_bad (bs := ds) (b := d) (cut_n td) (cut_z hnm hzz.2) hdk ww hwm
      refine ⟨_, _, (dg_name 4 nd), ?_⟩
      walk_at "env"
      refine ws_cons (ws_set 10 nd (ed_bin ed_int (ED.eq (ed_bin (ed_ix (ed_var 3 rfl) (ed_bin ed_int (ed_var 4 rfl) (by walk_at "b2")) (by walk_at "ix")) (ED.eq (ed_callB (id := "len") (by rfl) B.«len» bb_len (ad_cons (ed_var 2 rfl) ad_nil) (by walk_at "bc")) (show _ = (.int ((lnsT Q).length : Int)) from by rw [List.length_map, List.length_map, List.length_map])) (by walk_at "b2")) (show _ = (.int (j9 : Int)) from by rw [hj9])) (by walk_at "b2")) ?_)
      walk_at "env"
      refine ws_cons (ws_set 11 nd (ed_ix (ed_lst (eo_filter [("line", 12)] (lnsT (ds ++ [d])) (fun l : Ln => D.str (lnW l.ws)) (isBl) (fun l : Ln => D.str (nmL l)) rfl nd (blkOk_by (N := ["script", "rows", "lines", "draws", "k", "used", "more", "wrong", "first", "sixty", "at", "name", "line"]) (sc := defScope s_law) (by decide +kernel)) (id_list (ED.eq (d' := .lst ((lnsT (ds ++ [d])).map fun l => D.str (lnW l.ws))) (ed_lst (eo_slice (ed_var 2 rfl) no_part (some_part (ed_var 10 rfl)))) (by rw [ls_take83 _ (by omega), show (1 + (j9 : Int)).toNat = j9 + 1 by omega, ← List.map_take, ← he, List.map_map (f := Ln.ws), List.map_map]; rfl))) (rfl) (fun l hxm => turn_if (fun hp3 => ⟨_, by rfl, fun _ _ _ _ _ => ⟨(dg_name 12 nd), tds_one (TD.eq (td_truth (ED.eq (ed_starts (ed_var 12 rfl) ed_str) (show _ = D.bl (isBl l) by rw [ln_sw])) rfl) hp3), (ed_ix (ED.eq (ed_lst (eo_split (ed_var 12 rfl) ed_str (by decide +kernel) (by have := ln_len12 (td.ln hxm).ok.2.2 (td.ln hxm).ok.2.1; rw [sizeLine_eq]; omega))) (show _ = D.lst (.str l.hd :: .str (nmL l) :: (l.ws.drop 2).map .str) by rw [ln_split (td.ln hxm).ok.1 (td.ln hxm).ok.2.2]; exact ln_w2 l)) ed_int IX.l1)⟩⟩) (fun hp3 => ⟨_, by rfl, fun _ _ _ _ _ => ⟨(dg_name 12 nd), tds_one (TD.eq (td_truth (ED.eq (ed_starts (ed_var 12 rfl) ed_str) (show _ = D.bl (isBl l) by rw [ln_sw])) rfl) hp3)⟩⟩)) (by have := lnsT_len td; rw [sizeLine_eq]; omega))) (ed_neg ed_int) (.l at_nm0)) ?_)
      walk_at "env"
      refine ws_cons (ws_set 7 nd (ED.eq (ed_call G_law_wrong_line (hr.mono (by decide)) (by rfl) (ad_cons (ed_ix (ed_var 3 rfl) (ed_bin (ed_bin ed_int (ed_var 4 rfl) (by walk_at "b2")) ed_int (by walk_at "b2")) (by walk_at "ix")) (ad_cons (ed_bin (ed_ix (ed_var 3 rfl) ed_int (by walk_at "ix")) (ed_var 4 rfl) (by walk_at "b2")) (ad_cons (ed_var 11 rfl) ad_nil))) (by exact .mk _ _ _ (dr_lo _ _ _).1 (by have := (dr_lo (cellAt ns 1) 16 14).1; omega) (name_w hdk).n)) (show _ = (.str (lnW ww)) from by rw [hww])) ?_)
      walk_at "env"
      refine ws_cons (ws_if (td_cmp (ed_call G_law_line (hr.mono (by decide)) (by rfl) (ad_cons (ED.eq (d' := D.lst (((((lnsT Q).map Ln.ws).take (j9 + 1) ++ [ww] ++ ((lnsT Q).map Ln.ws).drop (j9 + 1)).map lnW).map D.str)) (ed_lst (eo_cat (ed_lst (eo_cat (ED.eq (d' := D.lst (((((lnsT Q).map Ln.ws).take (j9 + 1)).map lnW).map D.str)) (ed_lst (eo_slice (ed_var 2 rfl) no_part (some_part (ed_var 10 rfl)))) (by rw [ls_take83 _ (by omega), show (1 + (j9 : Int)).toNat = j9 + 1 by omega])) (ed_lst (eo_lst (ad_cons (ed_var 7 rfl) ad_nil))) (by simp only [List.length_map, List.length_append, List.length_take, List.length_drop, List.length_cons, List.length_nil]; rw [sizeLine_eq]; omega))) (ED.eq (d' := D.lst (((((lnsT Q).map Ln.ws).drop (j9 + 1)).map lnW).map D.str)) (ed_lst (eo_slice (ed_var 2 rfl) (some_part (ed_var 10 rfl)) no_part)) (by rw [ls_drop83 _ (by omega), show (1 + (j9 : Int)).toNat = j9 + 1 by omega])) (by simp only [List.length_map, List.length_append, List.length_take, List.length_drop, List.length_cons, List.length_nil]; rw [sizeLine_eq]; omega))) (by rw [ls_app83, ls_app83]; rfl)) ad_nil) (.mk _ _ (.bad _ _ (px_cut2 t (by omega) (by omega) (by omega) td he hbad.2 hbad.1)))) (ed_bin (ed_var 10 rfl) ed_int (by walk_at "b2")) (by walk_at "c2")) (fun hc4 => ?_) (fun hc4 => ?_))
      · skip
        exfalso; simp at hc4 <;> omega
      · skip
        clear hc4
        refine ws_nil ?_
        refine ws_nil ?_
        exact ⟨rfl, True.intro⟩
    · intro u0 hP0
      walk_at "env"
      refine ws_cons (ws_set 5 nd (ED.eq (ed_join (zs := (("use" : Str) :: r0.n :: List.replicate r0.P.length "a")) ed_str (.lst _) (ED.eq (ed_lst (eo_cat (ed_lst (eo_lst (ad_cons ed_str (ad_cons (ed_ix (ED.eq (ed_ix (d := rwB r0) (ed_var 1 rfl) ed_int (.l (atI_nat (j := 0) (by rw [List.getElem?_map, hr0]; rfl)))) (show _ = D.tup [.str r0.n, .lst (r0.P.map .str), .lst (r0.V.map BDev.d), .lst (r0.U.map BUse.d)] from rfl)) ed_int IX.t0) ad_nil)))) (ed_lst (eo_rep (eo_lst (ad_cons ed_str ad_nil)) (ED.eq (ed_callB (id := "len") (by rfl) B.«len» bb_len (ad_cons (ed_ix (ED.eq (ed_ix (d := rwB r0) (ed_var 1 rfl) ed_int (.l (atI_nat (j := 0) (by rw [List.getElem?_map, hr0]; rfl)))) (show _ = D.tup [.str r0.n, .lst (r0.P.map .str), .lst (r0.V.map BDev.d), .lst (r0.U.map BUse.d)] from rfl)) ed_int IX.t1) ad_nil) (by walk_at "bc")) (show _ = D.int (r0.P.length : Int) by rw [List.length_map])) (by omega) (by omega) (by simp only [List.length_cons, List.length_nil]; rw [sizeLine_eq]; omega))) (by rw [rep_a83]; simp only [List.length_map, List.length_replicate, List.length_cons, List.length_nil]; rw [sizeLine_eq]; omega))) (by rw [rep_a83]; rfl)) (us_room okr hr3)) (show _ = D.str (lnW (("use" : Str) :: r0.n :: List.replicate r0.P.length "a")) from rfl)) ?_)
      walk_at "env"
      refine ws_cons (ws_set 6 nd (ED.eq (d' := D.lst (((((lnsT (Q ++ [bZ r0])).map Ln.ws)).map lnW).map D.str)) (ed_lst (eo_cat (ed_var 2 rfl) (ed_lst (eo_lst (ad_cons ed_str (ad_cons (ed_var 5 rfl) ad_nil)))) (by simp only [List.length_map, List.length_append, List.length_take, List.length_drop, List.length_cons, List.length_nil]; rw [sizeLine_eq]; omega))) (by rw [wsQ_Z, ls_app83, ← lits_l.2.2.2.2.2.2]; rfl)) ?_)
      walk_at "env"
      refine ws_cons (ws_if (td_cmp (ed_call G_law_line (hr.mono (by decide)) (by rfl) (ad_cons (ed_var 6 rfl) ad_nil) (.mk _ _ (.ok _ tZ))) ed_int (by walk_at "c2")) (fun hc5 => ?_) (fun hc5 => ?_))
      · skip
        exfalso; simp at hc5 <;> omega
      · skip
        clear hc5
        refine ws_nil ?_
        refine ws_cons (ws_forU (moW r0) (fun ws => D.str (lnW ws)) rfl (id_list (ED.eq (d' := .lst ((moW r0).map fun ws => D.str (lnW ws))) (ed_lst (eo_lst (ad_cons ed_str (ad_cons (ed_bin (ed_var 5 rfl) ed_str (b2_addS (us_room2 okr hr3))) (ad_cons ed_str (ad_cons ed_str (ad_cons (ed_bin (ed_bin ed_str (ed_ix (ED.eq (ed_ix (d := rwB r0) (ed_var 1 rfl) ed_int (.l (atI_nat (j := 0) (by rw [List.getElem?_map, hr0]; rfl)))) (show _ = D.tup [.str r0.n, .lst (r0.P.map .str), .lst (r0.V.map BDev.d), .lst (r0.U.map BUse.d)] from rfl)) ed_int IX.t0) (b2_addS (add_ok83 (show ("use " : Str).length ≤ 100 by decide +kernel) (name_w okr.n).n))) (ed_bin ed_str ed_int (b2_mulS (n := 2) (by decide) (by decide) (by decide +kernel) (by decide +kernel))) (b2_addS (us_room3 okr))) ad_nil))))))) (by rw [show ((moW r0).map fun ws => D.str (lnW ws)) = ((moW r0).map lnW).map D.str by rw [List.map_map]; rfl, ← mo_str]; rfl))) (by rfl) (U := Sl) (fun i u => [(7, u)]) (fun r => (r.getD 7 .no)) (fun _ => True) (rfl) (True.intro) ?_ ?_)
        · intro i1 ww u1 hx1 hP1
          have hwm := List.mem_of_getElem? hx1
          refine ⟨_, _, (dg_name 7 nd), ?_⟩
          walk_at "env"
          refine ws_cons (ws_if (td_cmp (ed_call G_law_line (hr.mono (by decide)) (by rfl) (ad_cons (ED.eq (d' := D.lst (((((lnsT (Q ++ [bZ r0])).map Ln.ws) ++ [ww]).map lnW).map D.str)) (ed_lst (eo_cat (ed_var 6 rfl) (ed_lst (eo_lst (ad_cons (ed_var 7 rfl) ad_nil))) (by simp only [List.length_map, List.length_append, List.length_take, List.length_drop, List.length_cons, List.length_nil]; rw [sizeLine_eq]; omega))) (by rw [ls_app83]; rfl)) ad_nil) (.mk _ _ (.bad _ _ (px_at tZ (rr := []) (mo_bad t hzz.1 hr0 hr3 ww hwm).2 (mo_bad t hzz.1 hr0 hr3 ww hwm).1 (fun _ h => (by cases h)) (by simp))))) (ed_bin (ED.eq (ed_callB (id := "len") (by rfl) B.«len» bb_len (ad_cons (ed_var 6 rfl) ad_nil) (by walk_at "bc")) (show _ = (.int ((lnsT (Q ++ [bZ r0])).length : Int)) from by rw [List.length_map, List.length_map, List.length_map])) ed_int (by walk_at "b2")) (by walk_at "c2")) (fun hc6 => ?_) (fun hc6 => ?_))
          · skip
            exfalso; simp at hc6 <;> omega
          · skip
            clear hc6
            refine ws_nil ?_
            refine ws_nil ?_
            exact ⟨rfl, True.intro⟩
        · intro u1 hP1
          walk_at "env"
          refine ws_cons (ws_forU (fiW r0) (fun ws => D.str (lnW ws)) rfl (id_list (ED.eq (d' := .lst ((fiW r0).map fun ws => D.str (lnW ws))) (ed_lst (eo_lst (ad_cons ed_str (ad_cons ed_str (ad_cons ed_str (ad_cons ed_str (ad_cons (ed_var 5 rfl) ad_nil))))))) (by rw [show ((fiW r0).map fun ws => D.str (lnW ws)) = ((fiW r0).map lnW).map D.str by rw [List.map_map]; rfl, ← fi_str]; rfl))) (by rfl) (U := Sl) (fun i u => [(8, u)]) (fun r => (r.getD 8 .no)) (fun _ => True) (rfl) (True.intro) ?_ ?_)
          · intro i2 ww u2 hx2 hP2
            have hwf := List.mem_of_getElem? hx2
            refine ⟨_, _, (dg_name 8 nd), ?_⟩
            walk_at "env"
            refine ws_cons (ws_if (td_cmp (ed_call G_law_line (hr.mono (by decide)) (by rfl) (ad_cons (ED.eq (d' := D.lst ((([ww] ++ ((lnsT Q).map Ln.ws)).map lnW).map D.str)) (ed_lst (eo_cat (ed_lst (eo_lst (ad_cons (ed_var 8 rfl) ad_nil))) (ed_var 2 rfl) (by simp only [List.length_map, List.length_append, List.length_take, List.length_drop, List.length_cons, List.length_nil]; rw [sizeLine_eq]; omega))) (by rw [ls_app83]; rfl)) ad_nil) (.mk _ _ (.bad _ _ (px_fst t hl1 (by omega) (fi_bad okr.n hr3 ww hwf).2 (fi_bad okr.n hr3 ww hwf).1)))) ed_int (by walk_at "c2")) (fun hc7 => ?_) (fun hc7 => ?_))
            · skip
              exfalso; simp at hc7 <;> omega
            · skip
              clear hc7
              refine ws_nil ?_
              refine ws_nil ?_
              exact ⟨rfl, True.intro⟩
          · intro u2 hP2
            walk_at "env"
            refine ws_cons (ws_setMap2 9 [("k", 4)] (List.range 61) (fun (i : Nat) => D.int (i : Int)) (fun (k : Nat) => ("block m" : Str) ++ stI (k : Int)) (D.str) rfl nd (blkOk_by (N := ["script", "rows", "lines", "draws", "k", "used", "more", "wrong", "first", "sixty", "at", "name", "line"]) (sc := defScope s_law) (by decide +kernel)) (id_range1 (by rfl) B.«range» ed_int (by walk_at "side")) (by exact rngD0 61) (fun z hxm => ⟨_, by rfl, fun _ _ _ _ _ => ⟨(dg_name 4 nd), tds_nil, (ed_bin ed_str (ed_callT (T := "str") (by rfl) B.«str» bb_str (ad_cons (ed_var 4 rfl) ad_nil) (bc_strI (log_small (List.mem_range.mp hxm) (by omega)))) (b2_addS (by have := (dig_ok (show z < 64 by have := List.mem_range.mp hxm; omega)).1; have e : ("block m" : Str).length = 7 := (by decide +kernel); show ("block m" : Str).length + (Str.ofString (toString (z : Int))).length ≤ _; rw [e, sizeLine_eq]; omega)))⟩⟩) (by rw [List.length_range, sizeLine_eq]; omega) ?_)
            refine ws_share 9 rfl ?_
            walk_at "env"
            refine ws_cons (ws_ret (ED.eq (ed_and (ed_cmp (ed_call G_law_line (hr.mono (by decide)) (by rfl) (ad_cons (ED.eq (ed_var 9 rfl) (show _ = D.lst ((((lnsT (bs60 60)).map Ln.ws ++ ([["block", "m60"]] : List (List Str))).map lnW).map D.str) by rw [← six_str])) ad_nil) (.mk _ _ (.bad _ _ (by have h := six_px; rwa [six_len] at h)))) ed_int (by walk_at "c2")) (fun hb9 => (ed_one (ed_cmp (ed_call G_law_line (hr.mono (by decide)) (by rfl) (ad_cons (ED.eq (ed_lst (eo_lst (ad_cons ed_str (ad_cons ed_str (ad_cons ed_str (ad_cons ed_str ad_nil)))))) (show _ = D.lst (([["block", "a", "b"], ["block", "c"], ["use", "a", "b"], ["use", "a"]] : List (List Str)).map lnW |>.map D.str) by rw [← la_str]; rfl)) ad_nil) (.mk _ _ (.bad _ _ la_px))) ed_int (by walk_at "c2"))))) ?_) (Or.inl rfl))
            simp
end
theorem all_mk {l : PySem.W.OpenLaw} {w : World} {K : PySem.W.Frag} {h : Heap} {mg : Str → Option Value} {fa : Addr} (X : K.In h) (G : h.Ns mainGlobals mg) (hfa : mg "law" = some (.ref fa))
    {C_Block : Addr} (aC_Block : PySem.W.nsIn K mainGlobals "Block" = some (some (.ref C_Block)))
    (pg_Block : PySem.W.plainGet K C_Block Str.empty = true) (hd_Block : PySem.W.hasDictIn K C_Block = true) (po_Block : PySem.W.plainOver K C_Block = true) (sa_Block : PySem.W.findIn K (.ref C_Block) "__setattr__" = some (some (.builtin "object.__setattr__"))) (ha_Block : PySem.W.findIn K (.ref C_Block) "__class__" = some (some (.builtin "object.__class__"))) (hn_Block : PySem.W.specialIn K (.builtin "object.__class__") "__get__" = some (some (.builtin "getset_descriptor.__get__"))) (htk_Block : PySem.W.takesIn K (.builtin "object.__class__") = some true) (hm_Block : PySem.W.mroIn K C_Block (.type "object") = some true) (kc_Block : PySem.W.keepIn K (.ref C_Block) = true) (mk_Block : PySem.W.makesIn K C_Block = true)
    (na0_Block : PySem.W.findIn K (.ref C_Block) "name" = some none)
    (na1_Block : PySem.W.findIn K (.ref C_Block) "ports" = some none)
    (na2_Block : PySem.W.findIn K (.ref C_Block) "devices" = some none)
    (na3_Block : PySem.W.findIn K (.ref C_Block) "uses" = some none)
    {C_Schematic : Addr} (aC_Schematic : PySem.W.nsIn K mainGlobals "Schematic" = some (some (.ref C_Schematic)))
    (pg_Schematic : PySem.W.plainGet K C_Schematic Str.empty = true) (hd_Schematic : PySem.W.hasDictIn K C_Schematic = true) (po_Schematic : PySem.W.plainOver K C_Schematic = true) (sa_Schematic : PySem.W.findIn K (.ref C_Schematic) "__setattr__" = some (some (.builtin "object.__setattr__"))) (ha_Schematic : PySem.W.findIn K (.ref C_Schematic) "__class__" = some (some (.builtin "object.__class__"))) (hn_Schematic : PySem.W.specialIn K (.builtin "object.__class__") "__get__" = some (some (.builtin "getset_descriptor.__get__"))) (htk_Schematic : PySem.W.takesIn K (.builtin "object.__class__") = some true) (hm_Schematic : PySem.W.mroIn K C_Schematic (.type "object") = some true) (kc_Schematic : PySem.W.keepIn K (.ref C_Schematic) = true) (mk_Schematic : PySem.W.makesIn K C_Schematic = true)
    (na0_Schematic : PySem.W.findIn K (.ref C_Schematic) "_blocks" = some none)
    (na1_Schematic : PySem.W.findIn K (.ref C_Schematic) "_device_counts" = some none)
    (na2_Schematic : PySem.W.findIn K (.ref C_Schematic) "_net_counts" = some none)
    (na3_Schematic : PySem.W.findIn K (.ref C_Schematic) "_use_counts" = some none)
    {C_BlockList : Addr} (aC_BlockList : PySem.W.nsIn K mainGlobals "BlockList" = some (some (.ref C_BlockList)))
    (pg_BlockList : PySem.W.plainGet K C_BlockList Str.empty = true) (hd_BlockList : PySem.W.hasDictIn K C_BlockList = true) (po_BlockList : PySem.W.plainOver K C_BlockList = true) (sa_BlockList : PySem.W.findIn K (.ref C_BlockList) "__setattr__" = some (some (.builtin "object.__setattr__"))) (ha_BlockList : PySem.W.findIn K (.ref C_BlockList) "__class__" = some (some (.builtin "object.__class__"))) (hn_BlockList : PySem.W.specialIn K (.builtin "object.__class__") "__get__" = some (some (.builtin "getset_descriptor.__get__"))) (htk_BlockList : PySem.W.takesIn K (.builtin "object.__class__") = some true) (hm_BlockList : PySem.W.mroIn K C_BlockList (.type "object") = some true) (kc_BlockList : PySem.W.keepIn K (.ref C_BlockList) = true) (mk_BlockList : PySem.W.makesIn K C_BlockList = true)
    (na0_BlockList : PySem.W.findIn K (.ref C_BlockList) "_completed" = some none)
    (na1_BlockList : PySem.W.findIn K (.ref C_BlockList) "_name" = some none)
    (na2_BlockList : PySem.W.findIn K (.ref C_BlockList) "_ports" = some none)
    (na3_BlockList : PySem.W.findIn K (.ref C_BlockList) "_devices" = some none)
    (na4_BlockList : PySem.W.findIn K (.ref C_BlockList) "_uses" = some none)
    {f0 : Addr} {od0 an0 : Option Addr} {sl0 : Array (Option Value)} {oc0 kV0 dc0 pm0 cd0 ct0 : Value} (a0 : PySem.W.nsIn K mainGlobals "is_name" = some (some (.ref f0))) (l0 : K.lookup f0 = some ⟨oc0, od0, .func (PySem.W.fnOf "is_name" "is_name" (defArgs s_is_name) (defBody s_is_name) (defScope s_is_name) .none kV0 dc0 pm0 an0 cd0 ct0), sl0⟩) (c0 : PySem.W.codeIn K cd0 "is_name" = true) (k0 : PySem.W.keepIn K (.ref f0) = true)
    {f1 : Addr} {od1 an1 : Option Addr} {sl1 : Array (Option Value)} {oc1 kV1 dc1 pm1 cd1 ct1 : Value} (a1 : PySem.W.nsIn K mainGlobals "are_different" = some (some (.ref f1))) (l1 : K.lookup f1 = some ⟨oc1, od1, .func (PySem.W.fnOf "are_different" "are_different" (defArgs s_are_different) (defBody s_are_different) (defScope s_are_different) .none kV1 dc1 pm1 an1 cd1 ct1), sl1⟩) (c1 : PySem.W.codeIn K cd1 "are_different" = true) (k1 : PySem.W.keepIn K (.ref f1) = true)
    {f2 : Addr} {od2 an2 : Option Addr} {sl2 : Array (Option Value)} {oc2 kV2 dc2 pm2 cd2 ct2 : Value} (a2 : PySem.W.nsIn K mainGlobals "are_ports" = some (some (.ref f2))) (l2 : K.lookup f2 = some ⟨oc2, od2, .func (PySem.W.fnOf "are_ports" "are_ports" (defArgs s_are_ports) (defBody s_are_ports) (defScope s_are_ports) .none kV2 dc2 pm2 an2 cd2 ct2), sl2⟩) (c2 : PySem.W.codeIn K cd2 "are_ports" = true) (k2 : PySem.W.keepIn K (.ref f2) = true)
    {f3 : Addr} {od3 an3 : Option Addr} {sl3 : Array (Option Value)} {oc3 kV3 dc3 pm3 cd3 ct3 : Value} (a3 : PySem.W.nsIn K mainGlobals "is_block_device" = some (some (.ref f3))) (l3 : K.lookup f3 = some ⟨oc3, od3, .func (PySem.W.fnOf "is_block_device" "is_block_device" (defArgs s_is_block_device) (defBody s_is_block_device) (defScope s_is_block_device) .none kV3 dc3 pm3 an3 cd3 ct3), sl3⟩) (c3 : PySem.W.codeIn K cd3 "is_block_device" = true) (k3 : PySem.W.keepIn K (.ref f3) = true)
    {f4 : Addr} {od4 an4 : Option Addr} {sl4 : Array (Option Value)} {oc4 kV4 dc4 pm4 cd4 ct4 : Value} (a4 : PySem.W.nsIn K mainGlobals "is_use" = some (some (.ref f4))) (l4 : K.lookup f4 = some ⟨oc4, od4, .func (PySem.W.fnOf "is_use" "is_use" (defArgs s_is_use) (defBody s_is_use) (defScope s_is_use) .none kV4 dc4 pm4 an4 cd4 ct4), sl4⟩) (c4 : PySem.W.codeIn K cd4 "is_use" = true) (k4 : PySem.W.keepIn K (.ref f4) = true)
    {f5 : Addr} {od5 an5 : Option Addr} {sl5 : Array (Option Value)} {oc5 kV5 dc5 pm5 cd5 ct5 : Value} (a5 : PySem.W.findIn K (.ref C_Block) "__init__" = some (some (.ref f5))) (i5 : PySem.W.isFn K (.ref f5) = true) (l5 : K.lookup f5 = some ⟨oc5, od5, .func (PySem.W.fnOf "__init__" "Block.__init__" (defArgs s_Block_init) (defBody s_Block_init) (defScope s_Block_init) .none kV5 dc5 pm5 an5 cd5 ct5), sl5⟩) (c5 : PySem.W.codeIn K cd5 "Block.__init__" = true) (k5 : PySem.W.keepIn K (.ref f5) = true)
    {f6 : Addr} {od6 an6 : Option Addr} {sl6 : Array (Option Value)} {oc6 kV6 dc6 pm6 cd6 ct6 : Value} (a6 : PySem.W.nsIn K mainGlobals "own_nets" = some (some (.ref f6))) (l6 : K.lookup f6 = some ⟨oc6, od6, .func (PySem.W.fnOf "own_nets" "own_nets" (defArgs s_own_nets) (defBody s_own_nets) (defScope s_own_nets) .none kV6 dc6 pm6 an6 cd6 ct6), sl6⟩) (c6 : PySem.W.codeIn K cd6 "own_nets" = true) (k6 : PySem.W.keepIn K (.ref f6) = true)
    {f7 : Addr} {od7 an7 : Option Addr} {sl7 : Array (Option Value)} {oc7 kV7 dc7 pm7 cd7 ct7 : Value} (a7 : PySem.W.findIn K (.ref C_Schematic) "__init__" = some (some (.ref f7))) (i7 : PySem.W.isFn K (.ref f7) = true) (l7 : K.lookup f7 = some ⟨oc7, od7, .func (PySem.W.fnOf "__init__" "Schematic.__init__" (defArgs s_Schematic_init) (defBody s_Schematic_init) (defScope s_Schematic_init) .none kV7 dc7 pm7 an7 cd7 ct7), sl7⟩) (c7 : PySem.W.codeIn K cd7 "Schematic.__init__" = true) (k7 : PySem.W.keepIn K (.ref f7) = true)
    {f8 : Addr} {od8 an8 : Option Addr} {sl8 : Array (Option Value)} {oc8 kV8 dc8 pm8 cd8 ct8 : Value} (a8 : PySem.W.findIn K (.ref C_Schematic) "_append_block" = some (some (.ref f8))) (i8 : PySem.W.isFn K (.ref f8) = true) (l8 : K.lookup f8 = some ⟨oc8, od8, .func (PySem.W.fnOf "_append_block" "Schematic._append_block" (defArgs s_Schematic_append_block) (defBody s_Schematic_append_block) (defScope s_Schematic_append_block) .none kV8 dc8 pm8 an8 cd8 ct8), sl8⟩) (c8 : PySem.W.codeIn K cd8 "Schematic._append_block" = true) (k8 : PySem.W.keepIn K (.ref f8) = true)
    {f9 : Addr} {od9 an9 : Option Addr} {sl9 : Array (Option Value)} {oc9 kV9 dc9 pm9 cd9 ct9 : Value} (a9 : PySem.W.findIn K (.ref C_Schematic) "block" = some (some (.ref f9))) (i9 : PySem.W.isFn K (.ref f9) = true) (l9 : K.lookup f9 = some ⟨oc9, od9, .func (PySem.W.fnOf "block" "Schematic.block" (defArgs s_Schematic_block) (defBody s_Schematic_block) (defScope s_Schematic_block) .none kV9 dc9 pm9 an9 cd9 ct9), sl9⟩) (c9 : PySem.W.codeIn K cd9 "Schematic.block" = true) (k9 : PySem.W.keepIn K (.ref f9) = true)
    {f10 : Addr} {od10 an10 : Option Addr} {sl10 : Array (Option Value)} {oc10 kV10 dc10 pm10 cd10 ct10 : Value} (a10 : PySem.W.findIn K (.ref C_Schematic) "_known" = some (some (.ref f10))) (i10 : PySem.W.isFn K (.ref f10) = true) (l10 : K.lookup f10 = some ⟨oc10, od10, .func (PySem.W.fnOf "_known" "Schematic._known" (defArgs s_Schematic_known) (defBody s_Schematic_known) (defScope s_Schematic_known) .none kV10 dc10 pm10 an10 cd10 ct10), sl10⟩) (c10 : PySem.W.codeIn K cd10 "Schematic._known" = true) (k10 : PySem.W.keepIn K (.ref f10) = true)
    {f11 : Addr} {od11 an11 : Option Addr} {sl11 : Array (Option Value)} {oc11 kV11 dc11 pm11 cd11 ct11 : Value} (a11 : PySem.W.nsIn K mainGlobals "is_integer" = some (some (.ref f11))) (l11 : K.lookup f11 = some ⟨oc11, od11, .func (PySem.W.fnOf "is_integer" "is_integer" (defArgs s_is_integer) (defBody s_is_integer) (defScope s_is_integer) .none kV11 dc11 pm11 an11 cd11 ct11), sl11⟩) (c11 : PySem.W.codeIn K cd11 "is_integer" = true) (k11 : PySem.W.keepIn K (.ref f11) = true)
    {f12 : Addr} {od12 an12 : Option Addr} {sl12 : Array (Option Value)} {oc12 kV12 dc12 pm12 cd12 ct12 : Value} (a12 : PySem.W.nsIn K mainGlobals "read_integers" = some (some (.ref f12))) (l12 : K.lookup f12 = some ⟨oc12, od12, .func (PySem.W.fnOf "read_integers" "read_integers" (defArgs s_read_integers) (defBody s_read_integers) (defScope s_read_integers) .none kV12 dc12 pm12 an12 cd12 ct12), sl12⟩) (c12 : PySem.W.codeIn K cd12 "read_integers" = true) (k12 : PySem.W.keepIn K (.ref f12) = true)
    {f13 : Addr} {od13 an13 : Option Addr} {sl13 : Array (Option Value)} {oc13 kV13 dc13 pm13 cd13 ct13 : Value} (a13 : PySem.W.findIn K (.ref C_BlockList) "__init__" = some (some (.ref f13))) (i13 : PySem.W.isFn K (.ref f13) = true) (l13 : K.lookup f13 = some ⟨oc13, od13, .func (PySem.W.fnOf "__init__" "BlockList.__init__" (defArgs s_BlockList_init) (defBody s_BlockList_init) (defScope s_BlockList_init) .none kV13 dc13 pm13 an13 cd13 ct13), sl13⟩) (c13 : PySem.W.codeIn K cd13 "BlockList.__init__" = true) (k13 : PySem.W.keepIn K (.ref f13) = true)
    {f14 : Addr} {od14 an14 : Option Addr} {sl14 : Array (Option Value)} {oc14 kV14 dc14 pm14 cd14 ct14 : Value} (a14 : PySem.W.findIn K (.ref C_BlockList) "take" = some (some (.ref f14))) (i14 : PySem.W.isFn K (.ref f14) = true) (l14 : K.lookup f14 = some ⟨oc14, od14, .func (PySem.W.fnOf "take" "BlockList.take" (defArgs s_BlockList_take_v) (defBody s_BlockList_take_v) (defScope s_BlockList_take_v) .none kV14 dc14 pm14 an14 cd14 ct14), sl14⟩) (c14 : PySem.W.codeIn K cd14 "BlockList.take" = true) (k14 : PySem.W.keepIn K (.ref f14) = true)
    {f15 : Addr} {od15 an15 : Option Addr} {sl15 : Array (Option Value)} {oc15 kV15 dc15 pm15 cd15 ct15 : Value} (a15 : PySem.W.findIn K (.ref C_BlockList) "whole" = some (some (.ref f15))) (i15 : PySem.W.isFn K (.ref f15) = true) (l15 : K.lookup f15 = some ⟨oc15, od15, .func (PySem.W.fnOf "whole" "BlockList.whole" (defArgs s_BlockList_whole) (defBody s_BlockList_whole) (defScope s_BlockList_whole) .none kV15 dc15 pm15 an15 cd15 ct15), sl15⟩) (c15 : PySem.W.codeIn K cd15 "BlockList.whole" = true) (k15 : PySem.W.keepIn K (.ref f15) = true)
    {f16 : Addr} {od16 an16 : Option Addr} {sl16 : Array (Option Value)} {oc16 kV16 dc16 pm16 cd16 ct16 : Value} (a16 : PySem.W.findIn K (.ref C_BlockList) "_complete" = some (some (.ref f16))) (i16 : PySem.W.isFn K (.ref f16) = true) (l16 : K.lookup f16 = some ⟨oc16, od16, .func (PySem.W.fnOf "_complete" "BlockList._complete" (defArgs s_BlockList_complete) (defBody s_BlockList_complete) (defScope s_BlockList_complete) .none kV16 dc16 pm16 an16 cd16 ct16), sl16⟩) (c16 : PySem.W.codeIn K cd16 "BlockList._complete" = true) (k16 : PySem.W.keepIn K (.ref f16) = true)
    {f17 : Addr} {od17 an17 : Option Addr} {sl17 : Array (Option Value)} {oc17 kV17 dc17 pm17 cd17 ct17 : Value} (a17 : PySem.W.findIn K (.ref C_BlockList) "_take_block" = some (some (.ref f17))) (i17 : PySem.W.isFn K (.ref f17) = true) (l17 : K.lookup f17 = some ⟨oc17, od17, .func (PySem.W.fnOf "_take_block" "BlockList._take_block" (defArgs s_BlockList_take_block_v) (defBody s_BlockList_take_block_v) (defScope s_BlockList_take_block_v) .none kV17 dc17 pm17 an17 cd17 ct17), sl17⟩) (c17 : PySem.W.codeIn K cd17 "BlockList._take_block" = true) (k17 : PySem.W.keepIn K (.ref f17) = true)
    {f18 : Addr} {od18 an18 : Option Addr} {sl18 : Array (Option Value)} {oc18 kV18 dc18 pm18 cd18 ct18 : Value} (a18 : PySem.W.findIn K (.ref C_BlockList) "_take_device" = some (some (.ref f18))) (i18 : PySem.W.isFn K (.ref f18) = true) (l18 : K.lookup f18 = some ⟨oc18, od18, .func (PySem.W.fnOf "_take_device" "BlockList._take_device" (defArgs s_BlockList_take_device_v) (defBody s_BlockList_take_device_v) (defScope s_BlockList_take_device_v) .none kV18 dc18 pm18 an18 cd18 ct18), sl18⟩) (c18 : PySem.W.codeIn K cd18 "BlockList._take_device" = true) (k18 : PySem.W.keepIn K (.ref f18) = true)
    {f19 : Addr} {od19 an19 : Option Addr} {sl19 : Array (Option Value)} {oc19 kV19 dc19 pm19 cd19 ct19 : Value} (a19 : PySem.W.findIn K (.ref C_BlockList) "_take_use" = some (some (.ref f19))) (i19 : PySem.W.isFn K (.ref f19) = true) (l19 : K.lookup f19 = some ⟨oc19, od19, .func (PySem.W.fnOf "_take_use" "BlockList._take_use" (defArgs s_BlockList_take_use_v) (defBody s_BlockList_take_use_v) (defScope s_BlockList_take_use_v) .none kV19 dc19 pm19 an19 cd19 ct19), sl19⟩) (c19 : PySem.W.codeIn K cd19 "BlockList._take_use" = true) (k19 : PySem.W.keepIn K (.ref f19) = true)
    {f20 : Addr} {od20 an20 : Option Addr} {sl20 : Array (Option Value)} {oc20 kV20 dc20 pm20 cd20 ct20 : Value} (a20 : PySem.W.nsIn K mainGlobals "parse_schematic" = some (some (.ref f20))) (l20 : K.lookup f20 = some ⟨oc20, od20, .func (PySem.W.fnOf "parse_schematic" "parse_schematic" (defArgs s_parse_schematic) (defBody s_parse_schematic) (defScope s_parse_schematic) .none kV20 dc20 pm20 an20 cd20 ct20), sl20⟩) (c20 : PySem.W.codeIn K cd20 "parse_schematic" = true) (k20 : PySem.W.keepIn K (.ref f20) = true)
    {f21 : Addr} {od21 an21 : Option Addr} {sl21 : Array (Option Value)} {oc21 kV21 dc21 pm21 cd21 ct21 : Value} (a21 : PySem.W.nsIn K mainGlobals "_law_cell" = some (some (.ref f21))) (l21 : K.lookup f21 = some ⟨oc21, od21, .func (PySem.W.fnOf "_law_cell" "_law_cell" (defArgs s_law_cell) (defBody s_law_cell) (defScope s_law_cell) .none kV21 dc21 pm21 an21 cd21 ct21), sl21⟩) (c21 : PySem.W.codeIn K cd21 "_law_cell" = true) (k21 : PySem.W.keepIn K (.ref f21) = true)
    {f22 : Addr} {od22 an22 : Option Addr} {sl22 : Array (Option Value)} {oc22 kV22 dc22 pm22 cd22 ct22 : Value} (a22 : PySem.W.nsIn K mainGlobals "_law_draws" = some (some (.ref f22))) (l22 : K.lookup f22 = some ⟨oc22, od22, .func (PySem.W.fnOf "_law_draws" "_law_draws" (defArgs s_law_draws) (defBody s_law_draws) (defScope s_law_draws) .none kV22 dc22 pm22 an22 cd22 ct22), sl22⟩) (c22 : PySem.W.codeIn K cd22 "_law_draws" = true) (k22 : PySem.W.keepIn K (.ref f22) = true)
    {f23 : Addr} {od23 an23 : Option Addr} {sl23 : Array (Option Value)} {oc23 kV23 dc23 pm23 cd23 ct23 : Value} (a23 : PySem.W.nsIn K mainGlobals "_law_name" = some (some (.ref f23))) (l23 : K.lookup f23 = some ⟨oc23, od23, .func (PySem.W.fnOf "_law_name" "_law_name" (defArgs s_law_name) (defBody s_law_name) (defScope s_law_name) .none kV23 dc23 pm23 an23 cd23 ct23), sl23⟩) (c23 : PySem.W.codeIn K cd23 "_law_name" = true) (k23 : PySem.W.keepIn K (.ref f23) = true)
    {f24 : Addr} {od24 an24 : Option Addr} {sl24 : Array (Option Value)} {oc24 kV24 dc24 pm24 cd24 ct24 : Value} (a24 : PySem.W.nsIn K mainGlobals "_law_qbad_integer" = some (some (.ref f24))) (l24 : K.lookup f24 = some ⟨oc24, od24, .func (PySem.W.fnOf "_law_qbad_integer" "_law_qbad_integer" (defArgs s_law_qbad_integer) (defBody s_law_qbad_integer) (defScope s_law_qbad_integer) .none kV24 dc24 pm24 an24 cd24 ct24), sl24⟩) (c24 : PySem.W.codeIn K cd24 "_law_qbad_integer" = true) (k24 : PySem.W.keepIn K (.ref f24) = true)
    {f25 : Addr} {od25 an25 : Option Addr} {sl25 : Array (Option Value)} {oc25 kV25 dc25 pm25 cd25 ct25 : Value} (a25 : PySem.W.nsIn K mainGlobals "_law_qbad_name" = some (some (.ref f25))) (l25 : K.lookup f25 = some ⟨oc25, od25, .func (PySem.W.fnOf "_law_qbad_name" "_law_qbad_name" (defArgs s_law_qbad_name) (defBody s_law_qbad_name) (defScope s_law_qbad_name) .none kV25 dc25 pm25 an25 cd25 ct25), sl25⟩) (c25 : PySem.W.codeIn K cd25 "_law_qbad_name" = true) (k25 : PySem.W.keepIn K (.ref f25) = true)
    {f26 : Addr} {od26 an26 : Option Addr} {sl26 : Array (Option Value)} {oc26 kV26 dc26 pm26 cd26 ct26 : Value} (a26 : PySem.W.nsIn K mainGlobals "_law_qblocks" = some (some (.ref f26))) (l26 : K.lookup f26 = some ⟨oc26, od26, .func (PySem.W.fnOf "_law_qblocks" "_law_qblocks" (defArgs s_law_qblocks) (defBody s_law_qblocks) (defScope s_law_qblocks) .none kV26 dc26 pm26 an26 cd26 ct26), sl26⟩) (c26 : PySem.W.codeIn K cd26 "_law_qblocks" = true) (k26 : PySem.W.keepIn K (.ref f26) = true)
    {f27 : Addr} {od27 an27 : Option Addr} {sl27 : Array (Option Value)} {oc27 kV27 dc27 pm27 cd27 ct27 : Value} (a27 : PySem.W.nsIn K mainGlobals "_law_qblock_lines" = some (some (.ref f27))) (l27 : K.lookup f27 = some ⟨oc27, od27, .func (PySem.W.fnOf "_law_qblock_lines" "_law_qblock_lines" (defArgs s_law_qblock_lines) (defBody s_law_qblock_lines) (defScope s_law_qblock_lines) .none kV27 dc27 pm27 an27 cd27 ct27), sl27⟩) (c27 : PySem.W.codeIn K cd27 "_law_qblock_lines" = true) (k27 : PySem.W.keepIn K (.ref f27) = true)
    {f28 : Addr} {od28 an28 : Option Addr} {sl28 : Array (Option Value)} {oc28 kV28 dc28 pm28 cd28 ct28 : Value} (a28 : PySem.W.nsIn K mainGlobals "_law_line" = some (some (.ref f28))) (l28 : K.lookup f28 = some ⟨oc28, od28, .func (PySem.W.fnOf "_law_line" "_law_line" (defArgs s_law_line) (defBody s_law_line) (defScope s_law_line) .none kV28 dc28 pm28 an28 cd28 ct28), sl28⟩) (c28 : PySem.W.codeIn K cd28 "_law_line" = true) (k28 : PySem.W.keepIn K (.ref f28) = true)
    {f29 : Addr} {od29 an29 : Option Addr} {sl29 : Array (Option Value)} {oc29 kV29 dc29 pm29 cd29 ct29 : Value} (a29 : PySem.W.nsIn K mainGlobals "_law_wrong_line" = some (some (.ref f29))) (l29 : K.lookup f29 = some ⟨oc29, od29, .func (PySem.W.fnOf "_law_wrong_line" "_law_wrong_line" (defArgs s_law_wrong_line) (defBody s_law_wrong_line) (defScope s_law_wrong_line) .none kV29 dc29 pm29 an29 cd29 ct29), sl29⟩) (c29 : PySem.W.codeIn K cd29 "_law_wrong_line" = true) (k29 : PySem.W.keepIn K (.ref f29) = true)
    {f30 : Addr} {od30 an30 : Option Addr} {sl30 : Array (Option Value)} {oc30 kV30 dc30 pm30 cd30 ct30 : Value} (a30 : PySem.W.nsIn K mainGlobals "law" = some (some (.ref f30))) (l30 : K.lookup f30 = some ⟨oc30, od30, .func (PySem.W.fnOf "law" "law" (defArgs s_law) (defBody s_law) (defScope s_law) .none kV30 dc30 pm30 an30 cd30 ct30), sl30⟩) (c30 : PySem.W.codeIn K cd30 "law" = true) (k30 : PySem.W.keepIn K (.ref f30) = true)
    (z_all : PySem.W.nsIn K mainGlobals "all" = some none)
    (z_enumerate : PySem.W.nsIn K mainGlobals "enumerate" = some none)
    (z_int : PySem.W.nsIn K mainGlobals "int" = some none)
    (z_isinstance : PySem.W.nsIn K mainGlobals "isinstance" = some none)
    (z_len : PySem.W.nsIn K mainGlobals "len" = some none)
    (z_list : PySem.W.nsIn K mainGlobals "list" = some none)
    (z_min : PySem.W.nsIn K mainGlobals "min" = some none)
    (z_range : PySem.W.nsIn K mainGlobals "range" = some none)
    (z_set : PySem.W.nsIn K mainGlobals "set" = some none)
    (z_str : PySem.W.nsIn K mainGlobals "str" = some none)
    (z_sum : PySem.W.nsIn K mainGlobals "sum" = some none)
    (z_tuple : PySem.W.nsIn K mainGlobals "tuple" = some none)
    {u_KINDS : Value} (y_KINDS : PySem.W.nsIn K mainGlobals "KINDS" = some (some u_KINDS)) (w_KINDS : KD K (.tup [.str "n", .str "p"]) u_KINDS)
    {u_MOST_BLOCKS : Value} (y_MOST_BLOCKS : PySem.W.nsIn K mainGlobals "MOST_BLOCKS" = some (some u_MOST_BLOCKS)) (w_MOST_BLOCKS : KD K (.int 60) u_MOST_BLOCKS)
    {u_MOST_CHARACTERS : Value} (y_MOST_CHARACTERS : PySem.W.nsIn K mainGlobals "MOST_CHARACTERS" = some (some u_MOST_CHARACTERS)) (w_MOST_CHARACTERS : KD K (.int 12) u_MOST_CHARACTERS)
    {u_MOST_DIGITS : Value} (y_MOST_DIGITS : PySem.W.nsIn K mainGlobals "MOST_DIGITS" = some (some u_MOST_DIGITS)) (w_MOST_DIGITS : KD K (.int 30) u_MOST_DIGITS)
    {E_InvalidText : Addr} (ea_InvalidText : PySem.W.nsIn K mainGlobals "InvalidText" = some (some (.ref E_InvalidText)))
    (es_InvalidText : PySem.W.subIn K (.ref E_InvalidText) (.type "BaseException") = some true)
    (ed_InvalidText : PySem.W.hasDictIn K E_InvalidText = true)
    (et_InvalidText : PySem.W.typeIn K (.ref E_InvalidText) = some (.type "type"))
    (eg_InvalidText : PySem.W.findIn K (.ref E_InvalidText) "__getattribute__" = some (some (.builtin "BaseException.__getattribute__")))
    (en_InvalidText : PySem.W.findIn K (.ref E_InvalidText) "__getattr__" = some none)
    (ec_InvalidText : PySem.W.findIn K (.ref E_InvalidText) "__class__" = some (some (.builtin "object.__class__")))
    (ep_InvalidText : PySem.W.specialIn K (.builtin "object.__class__") "__get__" = some (some (.builtin "getset_descriptor.__get__")))
    (ex_InvalidText : PySem.W.takesIn K (.builtin "object.__class__") = some true)
    (em_InvalidText : PySem.W.mroIn K E_InvalidText (.type "object") = some true)
    {E_ReticleError : Addr} (ea_ReticleError : PySem.W.nsIn K mainGlobals "ReticleError" = some (some (.ref E_ReticleError)))
    (es_ReticleError : PySem.W.subIn K (.ref E_ReticleError) (.type "BaseException") = some true)
    (ed_ReticleError : PySem.W.hasDictIn K E_ReticleError = true)
    (et_ReticleError : PySem.W.typeIn K (.ref E_ReticleError) = some (.type "type"))
    (e4_m1 : PySem.W.subIn K (.ref E_InvalidText) (.ref E_ReticleError) = some true)
    (xga_InvalidText : PySem.W.findIn K (.ref E_InvalidText) "__getattribute__" = some (some (.builtin "BaseException.__getattribute__")))
    (xgg_InvalidText : PySem.W.findIn K (.ref E_InvalidText) "__getattr__" = some none)
    (xno0_InvalidText : PySem.W.findIn K (.ref E_InvalidText) "line" = some none)
    {eF_InvalidText eK_InvalidText eO_InvalidText : Addr} {edd_InvalidText : Option Addr} {ecd_InvalidText : ClassData} {esl_InvalidText : Array (Option Value)} {eoc_InvalidText ekV_InvalidText edoc_InvalidText epm_InvalidText ect_InvalidText ecl_InvalidText eccl_InvalidText : Value} {ean_InvalidText eod_InvalidText ecld_InvalidText ecdd_InvalidText : Option Addr} {eosl_InvalidText ecsl_InvalidText eccs_InvalidText : Array (Option Value)} {evs_InvalidText : Array Value} {efl_InvalidText : Str} {etf_InvalidText : Tok}
    (lcl_InvalidText : K.lookup E_InvalidText = some ⟨.type "type", edd_InvalidText, .cls ecd_InvalidText, esl_InvalidText⟩)
    (lox_InvalidText : oexD E_InvalidText ecd_InvalidText esl_InvalidText = true)
    (lsa_InvalidText : PySem.W.findIn K (.ref E_InvalidText) "__setattr__" = some (some (.builtin "object.__setattr__")))
    (lkp_InvalidText : PySem.W.keepIn K (.ref E_InvalidText) = true)
    (lin_InvalidText : PySem.W.findIn K (.ref E_InvalidText) "__init__" = some (some (.ref eF_InvalidText)))
    (lti_InvalidText : PySem.W.typeIn K (.ref eF_InvalidText) = some (.type "function"))
    (lfn_InvalidText : K.lookup eF_InvalidText = some ⟨eoc_InvalidText, eod_InvalidText, .func (PySem.W.fnX "__init__" "InvalidText.__init__" (defArgs s_E_InvalidText) (defBody s_E_InvalidText) (defScope s_E_InvalidText) [("__class__", eK_InvalidText)] .none ekV_InvalidText edoc_InvalidText epm_InvalidText ean_InvalidText (.ref eO_InvalidText) ect_InvalidText), eosl_InvalidText⟩)
    (lcd_InvalidText : PySem.W.codeIn K (.ref eO_InvalidText) "InvalidText.__init__" = true)
    (lce_InvalidText : K.lookup eK_InvalidText = some ⟨ecl_InvalidText, ecld_InvalidText, .cell (some (.ref E_InvalidText)), ecsl_InvalidText⟩)
    (lco_InvalidText : K.lookup eO_InvalidText = some ⟨eccl_InvalidText, ecdd_InvalidText, .fields evs_InvalidText, eccs_InvalidText⟩)
    (lvs_InvalidText : evs_InvalidText[2]? = some (.str efl_InvalidText etf_InvalidText))
    (lfi_InvalidText : ((l.prog.main.file : Str) == efl_InvalidText) = true)
    (lto_InvalidText : (l.prog.main.scope.names.lookup ("super" : Str)).isSome = false)
    (lsu_InvalidText : PySem.W.nsIn K mainGlobals "super" = some none)
    (lmr_InvalidText : PySem.W.mroIn K E_InvalidText (.ref E_InvalidText) = some true)
    (lop_InvalidText : PySem.W.nsIn K cStatics "thirdparty.any" = some none)
    (lii_InvalidText : PySem.W.ks_superIn K E_InvalidText E_InvalidText "__init__" = some (some (.builtin "ValueError.__init__")))
    (lve_InvalidText : PySem.W.subIn K (.ref E_InvalidText) (.type "ValueError") = some true)
    (lf1_InvalidText : PySem.W.findIn K (.ref E_InvalidText) "line" = some none)
    : ∃ fd : FuncData, (∀ (s : Shared) (v : Value), BindsTo s fd ⟨[v], []⟩ [("script", v)]) ∧ ∀ base : Heap, K.In base → base.Ns mainGlobals mg → FnOk l.prog w K mg base CX0 12 fa fd ["script"] (spR K RLaw) := by
  have e := hfa.symm.trans (PySem.W.mg_of X G a30)
  cases e
  have B : Bt mg := ⟨PySem.W.mg_none_of X G z_all, PySem.W.mg_none_of X G z_enumerate, PySem.W.mg_none_of X G z_int, PySem.W.mg_none_of X G z_isinstance, PySem.W.mg_none_of X G z_len, PySem.W.mg_none_of X G z_list, PySem.W.mg_none_of X G z_min, PySem.W.mg_none_of X G z_range, PySem.W.mg_none_of X G z_set, PySem.W.mg_none_of X G z_str, PySem.W.mg_none_of X G z_sum, PySem.W.mg_none_of X G z_tuple⟩
  have KC : Kt K mg := ⟨⟨⟨u_KINDS, PySem.W.mg_of X G y_KINDS, w_KINDS⟩⟩, ⟨⟨u_MOST_BLOCKS, PySem.W.mg_of X G y_MOST_BLOCKS, w_MOST_BLOCKS⟩⟩, ⟨⟨u_MOST_CHARACTERS, PySem.W.mg_of X G y_MOST_CHARACTERS, w_MOST_CHARACTERS⟩⟩, ⟨⟨u_MOST_DIGITS, PySem.W.mg_of X G y_MOST_DIGITS, w_MOST_DIGITS⟩⟩⟩
  have KL : Lt K mg := ⟨⟨⟨C_Block, aC_Block, PySem.W.mg_of X G aC_Block, ⟨⟨pg_Block, hd_Block, po_Block, sa_Block⟩, ha_Block, hn_Block, htk_Block, hm_Block, kit_self⟩, kc_Block, (List.forall_mem_cons.mpr ⟨na0_Block, (List.forall_mem_cons.mpr ⟨na1_Block, (List.forall_mem_cons.mpr ⟨na2_Block, (List.forall_mem_cons.mpr ⟨na3_Block, fun _ h => absurd h (by simp)⟩)⟩)⟩)⟩)⟩⟩, ⟨⟨C_Schematic, aC_Schematic, PySem.W.mg_of X G aC_Schematic, ⟨⟨pg_Schematic, hd_Schematic, po_Schematic, sa_Schematic⟩, ha_Schematic, hn_Schematic, htk_Schematic, hm_Schematic, kit_self⟩, kc_Schematic, (List.forall_mem_cons.mpr ⟨na0_Schematic, (List.forall_mem_cons.mpr ⟨na1_Schematic, (List.forall_mem_cons.mpr ⟨na2_Schematic, (List.forall_mem_cons.mpr ⟨na3_Schematic, fun _ h => absurd h (by simp)⟩)⟩)⟩)⟩)⟩⟩, ⟨⟨C_BlockList, aC_BlockList, PySem.W.mg_of X G aC_BlockList, ⟨⟨pg_BlockList, hd_BlockList, po_BlockList, sa_BlockList⟩, ha_BlockList, hn_BlockList, htk_BlockList, hm_BlockList, kit_self⟩, kc_BlockList, (List.forall_mem_cons.mpr ⟨na0_BlockList, (List.forall_mem_cons.mpr ⟨na1_BlockList, (List.forall_mem_cons.mpr ⟨na2_BlockList, (List.forall_mem_cons.mpr ⟨na3_BlockList, (List.forall_mem_cons.mpr ⟨na4_BlockList, fun _ h => absurd h (by simp)⟩)⟩)⟩)⟩)⟩)⟩⟩⟩
  have XF : Xt K mg := ⟨⟨⟨E_InvalidText, ea_InvalidText, ⟨eg_InvalidText, en_InvalidText, es_InvalidText, ed_InvalidText, ec_InvalidText, ep_InvalidText, ex_InvalidText, em_InvalidText⟩⟩⟩, ⟨⟨E_InvalidText, E_ReticleError, ea_InvalidText, PySem.W.mg_of X G ea_ReticleError, PySem.W.exm_ref es_ReticleError ed_ReticleError et_ReticleError e4_m1⟩⟩, ⟨⟨E_InvalidText, E_InvalidText, ea_InvalidText, PySem.W.mg_of X G ea_InvalidText, kit_self⟩⟩, ⟨⟨E_InvalidText, ea_InvalidText, ⟨xga_InvalidText, xgg_InvalidText, es_InvalidText, ed_InvalidText⟩, (List.forall_mem_cons.mpr ⟨xno0_InvalidText, fun _ h => absurd h (by simp)⟩)⟩⟩⟩
  have F0 := fun_mk (st := s_is_name) l0 c0 k0
  have b0 := F0.binds (ps := ["name"]) fun _ _ _ _ _ _ us hl => match us, hl with | [_], _ => rfl
  have F1 := fun_mk (st := s_are_different) l1 c1 k1
  have b1 := F1.binds (ps := ["names"]) fun _ _ _ _ _ _ us hl => match us, hl with | [_], _ => rfl
  have F2 := fun_mk (st := s_are_ports) l2 c2 k2
  have b2 := F2.binds (ps := ["ports"]) fun _ _ _ _ _ _ us hl => match us, hl with | [_], _ => rfl
  have F3 := fun_mk (st := s_is_block_device) l3 c3 k3
  have b3 := F3.binds (ps := ["device"]) fun _ _ _ _ _ _ us hl => match us, hl with | [_], _ => rfl
  have F4 := fun_mk (st := s_is_use) l4 c4 k4
  have b4 := F4.binds (ps := ["use"]) fun _ _ _ _ _ _ us hl => match us, hl with | [_], _ => rfl
  have F5 := fun_mk (st := s_Block_init) l5 c5 k5
  have b5 := F5.binds (ps := ["self", "name", "ports", "devices", "uses"]) fun _ _ _ _ _ _ us hl => match us, hl with | [_, _, _, _, _], _ => rfl
  have F6 := fun_mk (st := s_own_nets) l6 c6 k6
  have b6 := F6.binds (ps := ["block"]) fun _ _ _ _ _ _ us hl => match us, hl with | [_], _ => rfl
  have F7 := fun_mk (st := s_Schematic_init) l7 c7 k7
  have b7 := F7.binds (ps := ["self", "blocks"]) fun _ _ _ _ _ _ us hl => match us, hl with | [_, _], _ => rfl
  have F8 := fun_mk (st := s_Schematic_append_block) l8 c8 k8
  have b8 := F8.binds (ps := ["self", "block"]) fun _ _ _ _ _ _ us hl => match us, hl with | [_, _], _ => rfl
  have F9 := fun_mk (st := s_Schematic_block) l9 c9 k9
  have b9 := F9.binds (ps := ["self", "name"]) fun _ _ _ _ _ _ us hl => match us, hl with | [_, _], _ => rfl
  have F10 := fun_mk (st := s_Schematic_known) l10 c10 k10
  have b10 := F10.binds (ps := ["self", "counts", "name"]) fun _ _ _ _ _ _ us hl => match us, hl with | [_, _, _], _ => rfl
  have F11 := fun_mk (st := s_is_integer) l11 c11 k11
  have b11 := F11.binds (ps := ["word"]) fun _ _ _ _ _ _ us hl => match us, hl with | [_], _ => rfl
  have F12 := fun_mk (st := s_read_integers) l12 c12 k12
  have b12 := F12.binds (ps := ["words"]) fun _ _ _ _ _ _ us hl => match us, hl with | [_], _ => rfl
  have F13 := fun_mk (st := s_BlockList_init) l13 c13 k13
  have b13 := F13.binds (ps := ["self"]) fun _ _ _ _ _ _ us hl => match us, hl with | [_], _ => rfl
  have F14 := fun_mk (st := s_BlockList_take_v) l14 c14 k14
  have b14 := F14.binds (ps := ["self", "words"]) fun _ _ _ _ _ _ us hl => match us, hl with | [_, _], _ => rfl
  have F15 := fun_mk (st := s_BlockList_whole) l15 c15 k15
  have b15 := F15.binds (ps := ["self"]) fun _ _ _ _ _ _ us hl => match us, hl with | [_], _ => rfl
  have F16 := fun_mk (st := s_BlockList_complete) l16 c16 k16
  have b16 := F16.binds (ps := ["self"]) fun _ _ _ _ _ _ us hl => match us, hl with | [_], _ => rfl
  have F17 := fun_mk (st := s_BlockList_take_block_v) l17 c17 k17
  have b17 := F17.binds (ps := ["self", "name", "ports"]) fun _ _ _ _ _ _ us hl => match us, hl with | [_, _, _], _ => rfl
  have F18 := fun_mk (st := s_BlockList_take_device_v) l18 c18 k18
  have b18 := F18.binds (ps := ["self", "words", "sizes"]) fun _ _ _ _ _ _ us hl => match us, hl with | [_, _, _], _ => rfl
  have F19 := fun_mk (st := s_BlockList_take_use_v) l19 c19 k19
  have b19 := F19.binds (ps := ["self", "name", "nets"]) fun _ _ _ _ _ _ us hl => match us, hl with | [_, _, _], _ => rfl
  have F20 := fun_mk (st := s_parse_schematic) l20 c20 k20
  have b20 := F20.binds (ps := ["text"]) fun _ _ _ _ _ _ us hl => match us, hl with | [_], _ => rfl
  have F21 := fun_mk (st := s_law_cell) l21 c21 k21
  have b21 := F21.binds (ps := ["script", "k"]) fun _ _ _ _ _ _ us hl => match us, hl with | [_, _], _ => rfl
  have F22 := fun_mk (st := s_law_draws) l22 c22 k22
  have b22 := F22.binds (ps := ["cell", "count"]) fun _ _ _ _ _ _ us hl => match us, hl with | [_, _], _ => rfl
  have F23 := fun_mk (st := s_law_name) l23 c23 k23
  have b23 := F23.binds (ps := ["draw"]) fun _ _ _ _ _ _ us hl => match us, hl with | [_], _ => rfl
  have F24 := fun_mk (st := s_law_qbad_integer) l24 c24 k24
  have b24 := F24.binds (ps := ["draw"]) fun _ _ _ _ _ _ us hl => match us, hl with | [_], _ => rfl
  have F25 := fun_mk (st := s_law_qbad_name) l25 c25 k25
  have b25 := F25.binds (ps := ["draw"]) fun _ _ _ _ _ _ us hl => match us, hl with | [_], _ => rfl
  have F26 := fun_mk (st := s_law_qblocks) l26 c26 k26
  have b26 := F26.binds (ps := ["script", "first", "many"]) fun _ _ _ _ _ _ us hl => match us, hl with | [_, _, _], _ => rfl
  have F27 := fun_mk (st := s_law_qblock_lines) l27 c27 k27
  have b27 := F27.binds (ps := ["rows"]) fun _ _ _ _ _ _ us hl => match us, hl with | [_], _ => rfl
  have F28 := fun_mk (st := s_law_line) l28 c28 k28
  have b28 := F28.binds (ps := ["lines"]) fun _ _ _ _ _ _ us hl => match us, hl with | [_], _ => rfl
  have F29 := fun_mk (st := s_law_wrong_line) l29 c29 k29
  have b29 := F29.binds (ps := ["draw", "more", "name"]) fun _ _ _ _ _ _ us hl => match us, hl with | [_, _, _], _ => rfl
  have F30 := fun_mk (st := s_law) l30 c30 k30
  refine ⟨PySem.W.fnOf "law" "law" (defArgs s_law) (defBody s_law) (defScope s_law) .none kV30 dc30 pm30 an30 cd30 ct30, fun s v => .of_eq rfl, fun base _ _ => ?_⟩
  have TE_InvalidText : L2.OexC K E_InvalidText := oex_mk lcl_InvalidText lox_InvalidText lsa_InvalidText es_InvalidText et_InvalidText lkp_InvalidText
  have SE_InvalidText : SupK l.prog K mg E_InvalidText eF_InvalidText eK_InvalidText eO_InvalidText (F_E_InvalidText eK_InvalidText eO_InvalidText) := ⟨⟨rfl, rfl⟩, ⟨eoc_InvalidText, eod_InvalidText, eosl_InvalidText, .none, ekV_InvalidText, edoc_InvalidText, epm_InvalidText, ean_InvalidText, ect_InvalidText, lfn_InvalidText⟩, lcd_InvalidText, ⟨ecl_InvalidText, ecld_InvalidText, ecsl_InvalidText, lce_InvalidText⟩, ⟨eccl_InvalidText, ecdd_InvalidText, eccs_InvalidText, evs_InvalidText, efl_InvalidText, etf_InvalidText, lco_InvalidText, lvs_InvalidText, lfi_InvalidText⟩, lto_InvalidText, ⟨_, rfl, rfl⟩, PySem.W.mg_none_of X G lsu_InvalidText, lmr_InvalidText, lop_InvalidText, lii_InvalidText, lve_InvalidText⟩
  have GE_InvalidText : FnEr l.prog w K mg base "InvalidText" ["line"] 1 R_E_InvalidText := ⟨⟨E_InvalidText, eF_InvalidText, _, ["self", "line"], ea_InvalidText, PySem.W.mg_of X G ea_InvalidText, TE_InvalidText, lin_InvalidText, lti_InvalidText, okE_InvalidText SE_InvalidText TE_InvalidText lf1_InvalidText lfn_InvalidText, Binds.all fun us hl => match us, hl with | [_, _], _ => rfl⟩⟩
  have G_is_name : Fn l.prog w K mg base "is_name" 1 R_is_name := fn_wrap (PySem.W.mg_of X G a0) b0 F0.kp (ok_is_name F0 B KC KL XF )
  have G_are_different : Fn l.prog w K mg base "are_different" 1 R_are_different := fn_wrap (PySem.W.mg_of X G a1) b1 F1.kp (ok_are_different F1 B KC KL XF )
  have G_own_nets : Fn l.prog w K mg base "own_nets" 1 R_own_nets := fn_wrap (PySem.W.mg_of X G a6) b6 F6.kp (ok_own_nets F6 B KC KL XF )
  have G_Schematic_known : FnM l.prog w K mg base "Schematic" "_known" 1 R_Schematic_known := ⟨⟨C_Schematic, f10, _, _, aC_Schematic, ⟨pg_Schematic, hd_Schematic, po_Schematic, sa_Schematic⟩, ⟨a10, i10, k10⟩, ok_Schematic_known F10 B KC KL XF , b10⟩⟩
  have G_is_integer : Fn l.prog w K mg base "is_integer" 1 R_is_integer := fn_wrap (PySem.W.mg_of X G a11) b11 F11.kp (ok_is_integer F11 B KC KL XF )
  have G_BlockList_init : FnIL l.prog w K mg base "BlockList" 1 R_BlockList_init := ⟨⟨C_BlockList, f13, _, _, aC_BlockList, PySem.W.mg_of X G aC_BlockList, ⟨mk_BlockList, a13, i13, kc_BlockList⟩, ok_BlockList_init F13 B KC KL XF , b13⟩⟩
  have G_law_cell : Fn l.prog w K mg base "_law_cell" 1 R_law_cell := fn_wrap (PySem.W.mg_of X G a21) b21 F21.kp (ok_law_cell F21 B KC KL XF )
  have G_law_draws : Fn l.prog w K mg base "_law_draws" 1 R_law_draws := fn_wrap (PySem.W.mg_of X G a22) b22 F22.kp (ok_law_draws F22 B KC KL XF )
  have G_law_name : Fn l.prog w K mg base "_law_name" 1 R_law_name := fn_wrap (PySem.W.mg_of X G a23) b23 F23.kp (ok_law_name F23 B KC KL XF )
  have G_law_qbad_integer : Fn l.prog w K mg base "_law_qbad_integer" 1 R_law_qbad_integer := fn_wrap (PySem.W.mg_of X G a24) b24 F24.kp (ok_law_qbad_integer F24 B KC KL XF )
  have G_law_qbad_name : Fn l.prog w K mg base "_law_qbad_name" 1 R_law_qbad_name := fn_wrap (PySem.W.mg_of X G a25) b25 F25.kp (ok_law_qbad_name F25 B KC KL XF )
  have G_law_qblock_lines : Fn l.prog w K mg base "_law_qblock_lines" 1 R_law_qblock_lines := fn_wrap (PySem.W.mg_of X G a27) b27 F27.kp (ok_law_qblock_lines F27 B KC KL XF )
  have G_are_ports : Fn l.prog w K mg base "are_ports" 2 R_are_ports := fn_wrap (PySem.W.mg_of X G a2) b2 F2.kp (ok_are_ports F2 B KC KL XF G_are_different G_is_name)
  have G_is_block_device : Fn l.prog w K mg base "is_block_device" 2 R_is_block_device := fn_wrap (PySem.W.mg_of X G a3) b3 F3.kp (ok_is_block_device F3 B KC KL XF G_is_name)
  have G_is_use : Fn l.prog w K mg base "is_use" 2 R_is_use := fn_wrap (PySem.W.mg_of X G a4) b4 F4.kp (ok_is_use F4 B KC KL XF G_is_name)
  have G_Schematic_append_block : FnML l.prog w K mg base "Schematic" "_append_block" 2 R_Schematic_append_block := ⟨⟨C_Schematic, f8, _, _, aC_Schematic, ⟨pg_Schematic, hd_Schematic, po_Schematic, sa_Schematic⟩, ⟨a8, i8, k8⟩, ok_Schematic_append_block F8 B KC KL XF G_own_nets, b8⟩⟩
  have G_Schematic_block : FnM l.prog w K mg base "Schematic" "block" 2 R_Schematic_block := ⟨⟨C_Schematic, f9, _, _, aC_Schematic, ⟨pg_Schematic, hd_Schematic, po_Schematic, sa_Schematic⟩, ⟨a9, i9, k9⟩, ok_Schematic_block F9 B KC KL XF G_Schematic_known, b9⟩⟩
  have G_read_integers : Fn l.prog w K mg base "read_integers" 2 R_read_integers := fn_wrap (PySem.W.mg_of X G a12) b12 F12.kp (ok_read_integers F12 B KC KL XF G_is_integer)
  have G_law_qblocks : Fn l.prog w K mg base "_law_qblocks" 2 R_law_qblocks := fn_wrap (PySem.W.mg_of X G a26) b26 F26.kp (ok_law_qblocks F26 B KC KL XF G_law_cell G_law_draws G_law_name)
  have G_law_wrong_line : Fn l.prog w K mg base "_law_wrong_line" 2 R_law_wrong_line := fn_wrap (PySem.W.mg_of X G a29) b29 F29.kp (ok_law_wrong_line F29 B KC KL XF G_law_qbad_integer G_law_qbad_name)
  have G_Block_init : FnI l.prog w K mg base "Block" 3 R_Block_init := ⟨⟨C_Block, f5, _, _, aC_Block, PySem.W.mg_of X G aC_Block, ⟨mk_Block, a5, i5, kc_Block⟩, ok_Block_init F5 B KC KL XF G_are_ports G_is_block_device G_is_name G_is_use, b5⟩⟩
  have G_Schematic_init : FnI l.prog w K mg base "Schematic" 3 R_Schematic_init := ⟨⟨C_Schematic, f7, _, _, aC_Schematic, PySem.W.mg_of X G aC_Schematic, ⟨mk_Schematic, a7, i7, kc_Schematic⟩, ok_Schematic_init F7 B KC KL XF G_Schematic_append_block, b7⟩⟩
  have G_BlockList_take_device_v : FnML l.prog w K mg base "BlockList" "_take_device" 3 R_BlockList_take_device_v := ⟨⟨C_BlockList, f18, _, _, aC_BlockList, ⟨pg_BlockList, hd_BlockList, po_BlockList, sa_BlockList⟩, ⟨a18, i18, k18⟩, ok_BlockList_take_device_v F18 B KC KL XF G_is_block_device, b18⟩⟩
  have G_BlockList_take_device_x : FnML l.prog w K mg base "BlockList" "_take_device" 4 R_BlockList_take_device_x := ⟨⟨C_BlockList, f18, _, _, aC_BlockList, ⟨pg_BlockList, hd_BlockList, po_BlockList, sa_BlockList⟩, ⟨a18, i18, k18⟩, ok_BlockList_take_device_x F18 B KC KL XF G_is_block_device, b18⟩⟩
  have G_BlockList_take_use_v : FnML l.prog w K mg base "BlockList" "_take_use" 3 R_BlockList_take_use_v := ⟨⟨C_BlockList, f19, _, _, aC_BlockList, ⟨pg_BlockList, hd_BlockList, po_BlockList, sa_BlockList⟩, ⟨a19, i19, k19⟩, ok_BlockList_take_use_v F19 B KC KL XF G_is_use, b19⟩⟩
  have G_BlockList_take_use_x : FnML l.prog w K mg base "BlockList" "_take_use" 4 R_BlockList_take_use_x := ⟨⟨C_BlockList, f19, _, _, aC_BlockList, ⟨pg_BlockList, hd_BlockList, po_BlockList, sa_BlockList⟩, ⟨a19, i19, k19⟩, ok_BlockList_take_use_x F19 B KC KL XF G_is_use, b19⟩⟩
  have G_BlockList_complete : FnML l.prog w K mg base "BlockList" "_complete" 5 R_BlockList_complete := ⟨⟨C_BlockList, f16, _, _, aC_BlockList, ⟨pg_BlockList, hd_BlockList, po_BlockList, sa_BlockList⟩, ⟨a16, i16, k16⟩, ok_BlockList_complete F16 B KC KL XF G_Block_init, b16⟩⟩
  have G_BlockList_whole : FnML l.prog w K mg base "BlockList" "whole" 6 R_BlockList_whole := ⟨⟨C_BlockList, f15, _, _, aC_BlockList, ⟨pg_BlockList, hd_BlockList, po_BlockList, sa_BlockList⟩, ⟨a15, i15, k15⟩, ok_BlockList_whole F15 B KC KL XF G_BlockList_complete G_Schematic_init, b15⟩⟩
  have G_BlockList_take_block_v : FnML l.prog w K mg base "BlockList" "_take_block" 6 R_BlockList_take_block_v := ⟨⟨C_BlockList, f17, _, _, aC_BlockList, ⟨pg_BlockList, hd_BlockList, po_BlockList, sa_BlockList⟩, ⟨a17, i17, k17⟩, ok_BlockList_take_block_v F17 B KC KL XF G_BlockList_complete G_are_ports G_is_name, b17⟩⟩
  have G_BlockList_take_block_x : FnML l.prog w K mg base "BlockList" "_take_block" 7 R_BlockList_take_block_x := ⟨⟨C_BlockList, f17, _, _, aC_BlockList, ⟨pg_BlockList, hd_BlockList, po_BlockList, sa_BlockList⟩, ⟨a17, i17, k17⟩, ok_BlockList_take_block_x F17 B KC KL XF G_BlockList_complete G_are_ports G_is_name, b17⟩⟩
  have G_BlockList_take_v : FnML l.prog w K mg base "BlockList" "take" 8 R_BlockList_take_v := ⟨⟨C_BlockList, f14, _, _, aC_BlockList, ⟨pg_BlockList, hd_BlockList, po_BlockList, sa_BlockList⟩, ⟨a14, i14, k14⟩, ok_BlockList_take_v F14 B KC KL XF G_BlockList_take_block_v G_BlockList_take_device_v G_BlockList_take_use_v G_read_integers, b14⟩⟩
  have G_BlockList_take_x : FnML l.prog w K mg base "BlockList" "take" 9 R_BlockList_take_x := ⟨⟨C_BlockList, f14, _, _, aC_BlockList, ⟨pg_BlockList, hd_BlockList, po_BlockList, sa_BlockList⟩, ⟨a14, i14, k14⟩, ok_BlockList_take_x F14 B KC KL XF G_BlockList_take_block_x G_BlockList_take_device_x G_BlockList_take_use_x G_read_integers, b14⟩⟩
  have GX_parse_schematic : FnXG l.prog w K mg base "parse_schematic" 10 RX_parse_schematic := ⟨⟨_, _, _, okX_parse_schematic F20 B KC KL XF G_BlockList_init G_BlockList_take_v G_BlockList_take_x GE_InvalidText, PySem.W.mg_of X G a20, F20.kp, b20⟩⟩
  have G_parse_schematic : Fn l.prog w K mg base "parse_schematic" 10 R_parse_schematic := fn_wrap (PySem.W.mg_of X G a20) b20 F20.kp (ok_parse_schematic F20 B KC KL XF G_BlockList_init G_BlockList_take_v G_BlockList_whole)
  have G_law_line : Fn l.prog w K mg base "_law_line" 11 R_law_line := fn_wrap (PySem.W.mg_of X G a28) b28 F28.kp (ok_law_line F28 B KC KL XF G_parse_schematic GX_parse_schematic)
  exact ok_law F30 B KC KL XF G_law_cell G_law_draws G_law_line G_law_qblock_lines G_law_qblocks G_law_wrong_line
end DL
open PySem PySem.W PyProof.Rows
local macro_rules | `(tactic| walk_at "kd") => `(tactic| first | exact DL.kd_int | exact DL.kd_bl | exact DL.kd_str | (refine' DL.kd_tup ?l ?c ?e ?z ?r; (case l => k_is); (case c => rfl); (case e => rfl); (case z => decide); (case r => walk_at "kds")))
local macro_rules | `(tactic| walk_at "kds") => `(tactic| first | exact DL.kds_nil | (refine' DL.kds_cons ?a ?b; (case a => walk_at "kd"); (case b => walk_at "kds")))
set_option maxRecDepth 100000 in
set_option maxHeartbeats 0 in
theorem PySem.Challenge.cw_reticle_k83_faults_of_written_schematics_holds : PySem.Challenge.rw_reticle_k83_faults_of_written_schematics.Holds := by
  w_on; o_law; k_head; (case hw => w_witness2)
  k_fill
  refine DL.walk_law (l := PySem.Challenge.rw_reticle_k83_faults_of_written_schematics) (k := 12) rfl ⟨rfl, by decide, by decide⟩ rfl (fun w h Y => PySem.W.kIn_of Y) ?F
  case F =>
    intro w mg fa h KX G hmg
    refine' DL.all_mk KX G hmg ?aC_Block ?pg_Block ?hd_Block ?po_Block ?sa_Block ?ha_Block ?hn_Block ?htk_Block ?hm_Block ?kc_Block ?mk_Block ?na0_Block ?na1_Block ?na2_Block ?na3_Block ?aC_Schematic ?pg_Schematic ?hd_Schematic ?po_Schematic ?sa_Schematic ?ha_Schematic ?hn_Schematic ?htk_Schematic ?hm_Schematic ?kc_Schematic ?mk_Schematic ?na0_Schematic ?na1_Schematic ?na2_Schematic ?na3_Schematic ?aC_BlockList ?pg_BlockList ?hd_BlockList ?po_BlockList ?sa_BlockList ?ha_BlockList ?hn_BlockList ?htk_BlockList ?hm_BlockList ?kc_BlockList ?mk_BlockList ?na0_BlockList ?na1_BlockList ?na2_BlockList ?na3_BlockList ?na4_BlockList ?a0 ?l0 ?c0 ?k0 ?a1 ?l1 ?c1 ?k1 ?a2 ?l2 ?c2 ?k2 ?a3 ?l3 ?c3 ?k3 ?a4 ?l4 ?c4 ?k4 ?a5 ?i5 ?l5 ?c5 ?k5 ?a6 ?l6 ?c6 ?k6 ?a7 ?i7 ?l7 ?c7 ?k7 ?a8 ?i8 ?l8 ?c8 ?k8 ?a9 ?i9 ?l9 ?c9 ?k9 ?a10 ?i10 ?l10 ?c10 ?k10 ?a11 ?l11 ?c11 ?k11 ?a12 ?l12 ?c12 ?k12 ?a13 ?i13 ?l13 ?c13 ?k13 ?a14 ?i14 ?l14 ?c14 ?k14 ?a15 ?i15 ?l15 ?c15 ?k15 ?a16 ?i16 ?l16 ?c16 ?k16 ?a17 ?i17 ?l17 ?c17 ?k17 ?a18 ?i18 ?l18 ?c18 ?k18 ?a19 ?i19 ?l19 ?c19 ?k19 ?a20 ?l20 ?c20 ?k20 ?a21 ?l21 ?c21 ?k21 ?a22 ?l22 ?c22 ?k22 ?a23 ?l23 ?c23 ?k23 ?a24 ?l24 ?c24 ?k24 ?a25 ?l25 ?c25 ?k25 ?a26 ?l26 ?c26 ?k26 ?a27 ?l27 ?c27 ?k27 ?a28 ?l28 ?c28 ?k28 ?a29 ?l29 ?c29 ?k29 ?a30 ?l30 ?c30 ?k30 ?z_all ?z_enumerate ?z_int ?z_isinstance ?z_len ?z_list ?z_min ?z_range ?z_set ?z_str ?z_sum ?z_tuple ?y_KINDS ?w_KINDS ?y_MOST_BLOCKS ?w_MOST_BLOCKS ?y_MOST_CHARACTERS ?w_MOST_CHARACTERS ?y_MOST_DIGITS ?w_MOST_DIGITS ?ea_InvalidText ?es_InvalidText ?ed_InvalidText ?et_InvalidText ?eg_InvalidText ?en_InvalidText ?ec_InvalidText ?ep_InvalidText ?ex_InvalidText ?em_InvalidText ?ea_ReticleError ?es_ReticleError ?ed_ReticleError ?et_ReticleError ?e4_m1 ?xga_InvalidText ?xgg_InvalidText ?xno0_InvalidText ?lcl_InvalidText ?lox_InvalidText ?lsa_InvalidText ?lkp_InvalidText ?lin_InvalidText ?lti_InvalidText ?lfn_InvalidText ?lcd_InvalidText ?lce_InvalidText ?lco_InvalidText ?lvs_InvalidText ?lfi_InvalidText ?lto_InvalidText ?lsu_InvalidText ?lmr_InvalidText ?lop_InvalidText ?lii_InvalidText ?lve_InvalidText ?lf1_InvalidText
    (case aC_Block => k_is); (case pg_Block => k_is); (case hd_Block => k_is); (case po_Block => k_is); (case sa_Block => k_is); (case ha_Block => k_is); (case hn_Block => k_is); (case htk_Block => k_is)
    (case hm_Block => k_is); (case kc_Block => k_is); (case mk_Block => k_is); (case na0_Block => k_is); (case na1_Block => k_is); (case na2_Block => k_is); (case na3_Block => k_is); (case aC_Schematic => k_is)
    (case pg_Schematic => k_is); (case hd_Schematic => k_is); (case po_Schematic => k_is); (case sa_Schematic => k_is); (case ha_Schematic => k_is); (case hn_Schematic => k_is); (case htk_Schematic => k_is); (case hm_Schematic => k_is)
    (case kc_Schematic => k_is); (case mk_Schematic => k_is); (case na0_Schematic => k_is); (case na1_Schematic => k_is); (case na2_Schematic => k_is); (case na3_Schematic => k_is); (case aC_BlockList => k_is); (case pg_BlockList => k_is)
    (case hd_BlockList => k_is); (case po_BlockList => k_is); (case sa_BlockList => k_is); (case ha_BlockList => k_is); (case hn_BlockList => k_is); (case htk_BlockList => k_is); (case hm_BlockList => k_is); (case kc_BlockList => k_is)
    (case mk_BlockList => k_is); (case na0_BlockList => k_is); (case na1_BlockList => k_is); (case na2_BlockList => k_is); (case na3_BlockList => k_is); (case na4_BlockList => k_is); (case a0 => k_is); (case l0 => k_is)
    (case c0 => k_is); (case k0 => k_is); (case a1 => k_is); (case l1 => k_is); (case c1 => k_is); (case k1 => k_is); (case a2 => k_is); (case l2 => k_is)
    (case c2 => k_is); (case k2 => k_is); (case a3 => k_is); (case l3 => k_is); (case c3 => k_is); (case k3 => k_is); (case a4 => k_is); (case l4 => k_is)
    (case c4 => k_is); (case k4 => k_is); (case a5 => k_is); (case i5 => k_is); (case l5 => k_is); (case c5 => k_is); (case k5 => k_is); (case a6 => k_is)
    (case l6 => k_is); (case c6 => k_is); (case k6 => k_is); (case a7 => k_is); (case i7 => k_is); (case l7 => k_is); (case c7 => k_is); (case k7 => k_is)
    (case a8 => k_is); (case i8 => k_is); (case l8 => k_is); (case c8 => k_is); (case k8 => k_is); (case a9 => k_is); (case i9 => k_is); (case l9 => k_is)
    (case c9 => k_is); (case k9 => k_is); (case a10 => k_is); (case i10 => k_is); (case l10 => k_is); (case c10 => k_is); (case k10 => k_is); (case a11 => k_is)
    (case l11 => k_is); (case c11 => k_is); (case k11 => k_is); (case a12 => k_is); (case l12 => k_is); (case c12 => k_is); (case k12 => k_is); (case a13 => k_is)
    (case i13 => k_is); (case l13 => k_is); (case c13 => k_is); (case k13 => k_is); (case a14 => k_is); (case i14 => k_is); (case l14 => k_is); (case c14 => k_is)
    (case k14 => k_is); (case a15 => k_is); (case i15 => k_is); (case l15 => k_is); (case c15 => k_is); (case k15 => k_is); (case a16 => k_is); (case i16 => k_is)
    (case l16 => k_is); (case c16 => k_is); (case k16 => k_is); (case a17 => k_is); (case i17 => k_is); (case l17 => k_is); (case c17 => k_is); (case k17 => k_is)
    (case a18 => k_is); (case i18 => k_is); (case l18 => k_is); (case c18 => k_is); (case k18 => k_is); (case a19 => k_is); (case i19 => k_is); (case l19 => k_is)
    (case c19 => k_is); (case k19 => k_is); (case a20 => k_is); (case l20 => k_is); (case c20 => k_is); (case k20 => k_is); (case a21 => k_is); (case l21 => k_is)
    (case c21 => k_is); (case k21 => k_is); (case a22 => k_is); (case l22 => k_is); (case c22 => k_is); (case k22 => k_is); (case a23 => k_is); (case l23 => k_is)
    (case c23 => k_is); (case k23 => k_is); (case a24 => k_is); (case l24 => k_is); (case c24 => k_is); (case k24 => k_is); (case a25 => k_is); (case l25 => k_is)
    (case c25 => k_is); (case k25 => k_is); (case a26 => k_is); (case l26 => k_is); (case c26 => k_is); (case k26 => k_is); (case a27 => k_is); (case l27 => k_is)
    (case c27 => k_is); (case k27 => k_is); (case a28 => k_is); (case l28 => k_is); (case c28 => k_is); (case k28 => k_is); (case a29 => k_is); (case l29 => k_is)
    (case c29 => k_is); (case k29 => k_is); (case a30 => k_is); (case l30 => k_is); (case c30 => k_is); (case k30 => k_is); (case z_all => k_is); (case z_enumerate => k_is)
    (case z_int => k_is); (case z_isinstance => k_is); (case z_len => k_is); (case z_list => k_is); (case z_min => k_is); (case z_range => k_is); (case z_set => k_is); (case z_str => k_is)
    (case z_sum => k_is); (case z_tuple => k_is); (case y_KINDS => k_is); (case w_KINDS => walk_at "kd"); (case y_MOST_BLOCKS => k_is); (case w_MOST_BLOCKS => walk_at "kd"); (case y_MOST_CHARACTERS => k_is); (case w_MOST_CHARACTERS => walk_at "kd")
    (case y_MOST_DIGITS => k_is); (case w_MOST_DIGITS => walk_at "kd"); (case ea_InvalidText => k_is); (case es_InvalidText => k_is); (case ed_InvalidText => k_is); (case et_InvalidText => k_is); (case eg_InvalidText => k_is); (case en_InvalidText => k_is)
    (case ec_InvalidText => k_is); (case ep_InvalidText => k_is); (case ex_InvalidText => k_is); (case em_InvalidText => k_is); (case ea_ReticleError => k_is); (case es_ReticleError => k_is); (case ed_ReticleError => k_is); (case et_ReticleError => k_is)
    (case e4_m1 => k_is); (case xga_InvalidText => k_is); (case xgg_InvalidText => k_is); (case xno0_InvalidText => k_is); (case lcl_InvalidText => k_is); (case lox_InvalidText => rfl); (case lsa_InvalidText => k_is); (case lkp_InvalidText => k_is)
    (case lin_InvalidText => k_is); (case lti_InvalidText => k_is); (case lfn_InvalidText => k_is); (case lcd_InvalidText => k_is); (case lce_InvalidText => k_is); (case lco_InvalidText => k_is); (case lvs_InvalidText => rfl); (case lfi_InvalidText => first | rfl | decide +kernel)
    (case lto_InvalidText => first | rfl | decide +kernel); (case lsu_InvalidText => k_is); (case lmr_InvalidText => k_is); (case lop_InvalidText => k_is); (case lii_InvalidText => first | ks_is | kernel_rfl | decide +kernel); (case lve_InvalidText => k_is); (case lf1_InvalidText => k_is)
