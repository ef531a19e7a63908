import PyProof.Rows.All
import Wide.All
import OpenK.AllK
import Wide.FinOn
import HandS.ForMost
import HandS.Walk
import HandS.IsInst
import HandS.Style
import HandS.Defaults
import HandS.NoneIn
import PySem.Challenge.RW_reticle_k70_faults_of_written_circuits
import HandS.SetKeys
import HandS.SortRule
import HandS.SortInts
import HandS.More
import KE.KDictCopyH
import KE.KDictSum
import HandS.SetFor
import HandS.Flow
import HandS.SortKw
import HandS.ExcValue
import HandS.Deep
import KE.SortKeyHeap
import HandS.Strs
import KE.KDictList
import PyProof.Rows.TupTab
import HandS.TupLen
import HandS.Codes
import KE.SortData
import KE.KDictPairs
import HandS.TupAny
import HandS.DictComp
import PyProof.AutoSeq1
import HandS.Conv
import HandS.SlotsOwn
import HandS.WordsExc
import HandS.ExcIs
import HandS.Small
import HandS.FStr
import HandS.DictTup
import KE.DatumOrd
import HandS.Text
import HandS.Property
import PyProof.Rows.Range3
import KE.GoesEnumKw
import KE.GoesEnum
import HandS.Star
import PyProof.EnumMake
import PyProof.Draws
import KE.GoesMore
import HandS.WordsDict
import HandS.RaiseMore
import HandS.CallLocal
import KE.KIndexOf
import HandS.Call
import KE.KExcSuper
import HandS.NestedK
import HandS.ExcInit
import HandS.ExcField
import HandS.ClsMeth
import HandS.ExcCtx
import HandS.HotCalls
import HandS.ExcInitHot
set_option Elab.async false
set_option linter.all false
set_option maxRecDepth 100000
set_option maxHeartbeats 4000000
namespace DL
open PySem PySem.Spec L2
inductive D where
  | non | bl (b : Bool) | int (i : Int) | str (x : Str) | ty (n : String)
  | lst (xs : List D) | tup (xs : List D)
  | dk (ks : List Key) (ds : List D) | dt (ks : List (List Key)) (ds : List D)
  | obj (cn : Str) (ns : List Str) (ds : List D)
  /-- what stands at a place -/
  | ad (a : Addr)
  /-- a tuple that is known to have no dict -/
  | ptp (xs : List D)
  /-- a tuple that is known to be no constant -/
  | etp (xs : List D)
  /-- an exception of an own class: where it is, where its dict is -/
  | exc (a x : Addr) (ns : List Str) (ds : List D)
mutual
def DR (K : PySem.W.Frag) (H : Hp) : D → V → Prop
  | .non, v => v = .non
  | .bl b, v => v = .bl b
  | .int i, v => v = .int i
  | .str x, v => v = .str x
  | .ty n, v => v = .ty n
  | .lst ds, v => ∃ a vs, v = .ref a ∧ SqL K H a vs ∧ DRs K H ds vs
  | .tup ds, v => ∃ a vs, v = .ref a ∧ SqT K H a vs ∧ DRs K H ds vs
  | .dk ks ds, v => ∃ a vs, v = .ref a ∧ Rd H a (.dK (ks.zip vs)) ∧ ks.length = vs.length ∧ DRs K H ds vs
  | .dt ks ds, v => ∃ a vs, v = .ref a ∧ Rd H a (.dT (ks.zip vs)) ∧ ks.length = vs.length ∧ DRs K H ds vs
  | .obj cn ns ds, v => ∃ a C dx vs, v = .ref a ∧ PySem.W.nsIn K mainGlobals cn = some (some (.ref C)) ∧ H a = some (.ins C dx (ns.zip vs)) ∧ ns.length = vs.length ∧ DRs K H ds vs
  | .ad a, v => v = .ref a
  | .ptp ds, v => ∃ a o vs, v = .ref a ∧ H a = some (.frz o (.tup vs)) ∧ o.dict = none ∧ DRs K H ds vs
  | .etp ds, v => ∃ a vs, v = .ref a ∧ H a = some (.tup vs) ∧ DRs K H ds vs
  | .exc a x ns ds, v => v = .ref a ∧ ∃ vs, H x = some (.xd (ns.zip vs)) ∧ ns.length = vs.length ∧ DRs K H ds vs
def DRs (K : PySem.W.Frag) (H : Hp) : List D → List V → Prop
  | [], vs => vs = []
  | d :: ds, vs => ∃ v r, vs = v :: r ∧ DR K H d v ∧ DRs K H ds r
end
theorem Same.seqT {K : PySem.W.Frag} {H H' : Hp} {a : Addr} {xs : List V} (e : Same H H') (h : SqT K H a xs) : SqT K H' a xs := by
  rcases h with (h | ⟨o, h⟩) | h
  · exact .inl (.inl (e _ _ h))
  · exact .inl (.inr ⟨o, e _ _ h⟩)
  · exact .inr h
theorem Same.rd {H H' : Hp} {a : Addr} {u : HO} (e : Same H H') (h : Rd H a u) : Rd H' a u := by
  rcases h with h | ⟨o, h⟩
  · exact .inl (e _ _ h)
  · exact .inr ⟨o, e _ _ h⟩
mutual
theorem DR.mono {K : PySem.W.Frag} {H H' : Hp} (e : Same H H') : ∀ (d : D) (v : V), DR K H d v → DR K H' d v
  | .non, v, h => h
  | .bl _, v, h => h
  | .int _, v, h => h
  | .str _, v, h => h
  | .ty _, v, h => h
  | .lst ds, v, h => by
    obtain ⟨a, vs, h1, h2, h3⟩ := h
    exact ⟨a, vs, h1, e.seq h2, DRs.mono e ds vs h3⟩
  | .tup ds, v, h => by
    obtain ⟨a, vs, h1, h2, h3⟩ := h
    exact ⟨a, vs, h1, Same.seqT e h2, DRs.mono e ds vs h3⟩
  | .dk ks ds, v, h => by
    obtain ⟨a, vs, h1, h2, h4, h3⟩ := h
    exact ⟨a, vs, h1, Same.rd e h2, h4, DRs.mono e ds vs h3⟩
  | .dt ks ds, v, h => by
    obtain ⟨a, vs, h1, h2, h4, h3⟩ := h
    exact ⟨a, vs, h1, Same.rd e h2, h4, DRs.mono e ds vs h3⟩
  | .obj cn ns ds, v, h => by
    obtain ⟨a, C, dx, vs, h1, hn, h2, h4, h3⟩ := h
    exact ⟨a, C, dx, vs, h1, hn, e _ _ h2, h4, DRs.mono e ds vs h3⟩
  | .ad _, v, h => h
  | .ptp ds, v, h => by
    obtain ⟨a, o, vs, h1, h2, h4, h3⟩ := h
    exact ⟨a, o, vs, h1, e _ _ h2, h4, DRs.mono e ds vs h3⟩
  | .etp ds, v, h => by
    obtain ⟨a, vs, h1, h2, h3⟩ := h
    exact ⟨a, vs, h1, e _ _ h2, DRs.mono e ds vs h3⟩
  | .exc a x ns ds, v, h => by
    obtain ⟨h1, vs, h2, h4, h3⟩ := h
    exact ⟨h1, vs, e _ _ h2, h4, DRs.mono e ds vs h3⟩
theorem DRs.mono {K : PySem.W.Frag} {H H' : Hp} (e : Same H H') : ∀ (ds : List D) (vs : List V), DRs K H ds vs → DRs K H' ds vs
  | [], vs, h => h
  | d :: ds, vs, h => by
    obtain ⟨v, r, h1, h2, h3⟩ := h
    exact ⟨v, r, h1, DR.mono e d v h2, DRs.mono e ds r h3⟩
end
theorem DRs.length {K : PySem.W.Frag} {H : Hp} : ∀ {ds : List D} {vs : List V}, DRs K H ds vs → ds.length = vs.length
  | [], vs, h => by cases (show vs = [] from h); rfl
  | d :: ds, vs, h => by
    obtain ⟨v, r, rfl, _, h3⟩ := h
    simp [DRs.length h3]
theorem DRs.get {K : PySem.W.Frag} {H : Hp} : ∀ {ds : List D} {vs : List V} {i : Nat} {d : D}, DRs K H ds vs → ds[i]? = some d → ∃ v, vs[i]? = some v ∧ DR K H d v
  | [], vs, i, d, h, e => by simp at e
  | d' :: ds, vs, 0, d, h, e => by
    obtain ⟨v, r, rfl, h2, h3⟩ := h
    simp at e
    subst e
    exact ⟨v, by simp, h2⟩
  | d' :: ds, vs, i + 1, d, h, e => by
    obtain ⟨v, r, rfl, h2, h3⟩ := h
    obtain ⟨w, h4, h5⟩ := DRs.get (i := i) (d := d) h3 (by simpa using e)
    exact ⟨w, by simpa using h4, h5⟩
theorem DRs.app {K : PySem.W.Frag} {H : Hp} : ∀ {ds es : List D} {vs ws : List V}, DRs K H ds vs → DRs K H es ws → DRs K H (ds ++ es) (vs ++ ws)
  | [], es, vs, ws, h, g => by cases (show vs = [] from h); exact g
  | d :: ds, es, vs, ws, h, g => by
    obtain ⟨v, r, rfl, h2, h3⟩ := h
    exact ⟨v, r ++ ws, rfl, h2, DRs.app h3 g⟩
theorem DRs.one {K : PySem.W.Frag} {H : Hp} {d : D} {v : V} (h : DR K H d v) : DRs K H [d] [v] := ⟨v, [], rfl, h, rfl⟩
theorem DRs.set {K : PySem.W.Frag} {H : Hp} {d : D} {v : V} (g : DR K H d v) : ∀ {ds : List D} {vs : List V} (i : Nat), DRs K H ds vs → DRs K H (ds.set i d) (vs.set i v)
  | [], vs, i, h => by cases (show vs = [] from h); exact rfl
  | d' :: ds, vs, 0, h => by
    obtain ⟨v', r, rfl, h2, h3⟩ := h
    exact ⟨v, r, rfl, g, h3⟩
  | d' :: ds, vs, i + 1, h => by
    obtain ⟨v', r, rfl, h2, h3⟩ := h
    exact ⟨v', r.set i v, rfl, h2, DRs.set g i h3⟩
theorem DRs.take {K : PySem.W.Frag} {H : Hp} : ∀ {ds : List D} {vs : List V} (n : Nat), DRs K H ds vs → DRs K H (ds.take n) (vs.take n)
  | ds, vs, 0, h => by simp [DRs]
  | [], vs, n + 1, h => by cases (show vs = [] from h); exact rfl
  | d :: ds, vs, n + 1, h => by
    obtain ⟨v, r, rfl, h2, h3⟩ := h
    exact ⟨v, r.take n, rfl, h2, DRs.take n h3⟩
theorem DRs.drop {K : PySem.W.Frag} {H : Hp} : ∀ {ds : List D} {vs : List V} (n : Nat), DRs K H ds vs → DRs K H (ds.drop n) (vs.drop n)
  | ds, vs, 0, h => by simpa using h
  | [], vs, n + 1, h => by cases (show vs = [] from h); exact rfl
  | d :: ds, vs, n + 1, h => by
    obtain ⟨v, r, rfl, h2, h3⟩ := h
    exact DRs.drop (ds := ds) (vs := r) n h3
theorem DRs.ints {K : PySem.W.Frag} {H : Hp} : ∀ {ns : List Int} {vs : List V}, DRs K H (ns.map D.int) vs → vs = ns.map V.int
  | [], vs, h => h
  | n :: ns, vs, h => by
    obtain ⟨v, r, rfl, h2, h3⟩ := h
    cases (show v = .int n from h2)
    rw [DRs.ints h3]; rfl
theorem DRs.ofInts {K : PySem.W.Frag} {H : Hp} : ∀ (ns : List Int), DRs K H (ns.map D.int) (ns.map V.int)
  | [] => rfl
  | n :: ns => ⟨.int n, ns.map V.int, rfl, rfl, DRs.ofInts ns⟩
theorem DRs.bls {K : PySem.W.Frag} {H : Hp} : ∀ {ns : List Bool} {vs : List V}, DRs K H (ns.map D.bl) vs → vs = ns.map V.bl
  | [], vs, h => h
  | n :: ns, vs, h => by
    obtain ⟨v, r, rfl, h2, h3⟩ := h
    cases (show v = .bl n from h2)
    rw [DRs.bls h3]; rfl
theorem DRs.strs {K : PySem.W.Frag} {H : Hp} : ∀ {ns : List Str} {vs : List V}, DRs K H (ns.map D.str) vs → vs = ns.map V.str
  | [], vs, h => h
  | n :: ns, vs, h => by
    obtain ⟨v, r, rfl, h2, h3⟩ := h
    cases (show v = .str n from h2)
    rw [DRs.strs h3]; rfl
/-- what may be nobody else's -/
def NT : HO → Prop
  | .tup _ => False
  | _ => True
structure JH (B0 B H0 H : Hp) : Prop where
  s0 : Same B0 H0
  sh : Same H0 H
  sB : Same B H
  fr : ∀ a o, B a = some o → NT o → B0 a = none → H0 a = none
theorem JH.refl {H0 H : Hp} (h : Same H0 H) : JH H0 H H0 H := ⟨Same.refl _, h, Same.refl _, fun _ _ _ _ h => h⟩
theorem JH.trans {B0 B H0 H G0 G : Hp} (a : JH B0 B H0 H) (b : JH H0 H G0 G) : JH B0 B G0 G :=
  ⟨a.s0.trans b.s0, b.sh, a.sB.trans b.sB, fun x o h n h' => b.fr x o (a.sB x o h) n (a.fr x o h n h')⟩
/-- a new thing that is shared at once -/
theorem JH.new {H0 H : Hp} {p : Addr} {o : HO} (h : Same H0 H) (n : H p = none) : JH H0 H (upd H0 p o) (upd H p o) := by
  have n0 : H0 p = none := h.free n
  refine ⟨fun b u e => ?_, fun b u e => ?_, fun b u e => ?_, fun a u e _ e' => ?_⟩
  · rw [upd_ne (ne_of_none e n0)]; exact e
  · by_cases hb : b = p
    · subst hb; rw [upd_same] at e ⊢; exact e
    · rw [upd_ne hb] at e ⊢; exact h b u e
  · rw [upd_ne (ne_of_none e n)]; exact e
  · rw [upd_ne (ne_of_none e n)]; exact e'
/-- a new thing that is nobody else's -/
theorem JH.own {H0 H : Hp} {p : Addr} {o : HO} (h : Same H0 H) (n : H p = none) : JH H0 H H0 (upd H p o) := by
  have n0 : H0 p = none := h.free n
  refine ⟨Same.refl _, fun b u e => ?_, fun b u e => ?_, fun a u e _ e' => e'⟩
  · rw [upd_ne (ne_of_none e n0)]; exact h b u e
  · rw [upd_ne (ne_of_none e n)]; exact e
/-- what is nobody else's: a list, a dict -/
inductive OC where
  | lst (ds : List D) | dk (ks : List Key) (ds : List D) | dt (ks : List (List Key)) (ds : List D)
  /-- .. while a loop walks it -/
  | fk (ks : List Key) (ds : List D) | ft (ks : List (List Key)) (ds : List D)
  /-- an instance of a class of the text -/
  | ins (cn : Str) (ns : List Str) (ds : List D)
def OCR (K : PySem.W.Frag) (H0 : Hp) : OC → HO → Prop
  | .lst ds, o => ∃ vs, o = .lst vs ∧ DRs K H0 ds vs
  | .dk ks ds, o => ∃ vs, o = .dK (ks.zip vs) ∧ ks.length = vs.length ∧ DRs K H0 ds vs
  | .dt ks ds, o => ∃ vs, o = .dT (ks.zip vs) ∧ ks.length = vs.length ∧ DRs K H0 ds vs
  | .fk ks ds, o => ∃ vs od, o = .frz od (.dK (ks.zip vs)) ∧ ks.length = vs.length ∧ DRs K H0 ds vs
  | .ft ks ds, o => ∃ vs od, o = .frz od (.dT (ks.zip vs)) ∧ ks.length = vs.length ∧ DRs K H0 ds vs
  | .ins cn ns ds, o => ∃ vs C dx, o = .ins C dx (ns.zip vs) ∧ PySem.W.nsIn K mainGlobals cn = some (some (.ref C)) ∧ ns.length = vs.length ∧ DRs K H0 ds vs
theorem OCR.nt {K : PySem.W.Frag} {H0 : Hp} : ∀ {c : OC} {o : HO}, OCR K H0 c o → NT o
  | .lst _, _, ⟨vs, h1, h2⟩ => by subst h1; trivial
  | .dk _ _, _, ⟨vs, h1, h3, h2⟩ => by subst h1; trivial
  | .dt _ _, _, ⟨vs, h1, h3, h2⟩ => by subst h1; trivial
  | .fk _ _, _, ⟨vs, od, h1, h3, h2⟩ => by subst h1; trivial
  | .ft _ _, _, ⟨vs, od, h1, h3, h2⟩ => by subst h1; trivial
  | .ins _ _ _, _, ⟨vs, C, dx, h1, hn, h3, h2⟩ => by subst h1; trivial
theorem OCR.mono {K : PySem.W.Frag} {H0 H0' : Hp} (e : Same H0 H0') : ∀ {c : OC} {o : HO}, OCR K H0 c o → OCR K H0' c o
  | .lst _, _, ⟨vs, h1, h2⟩ => ⟨vs, h1, DRs.mono e _ _ h2⟩
  | .dk _ _, _, ⟨vs, h1, h3, h2⟩ => ⟨vs, h1, h3, DRs.mono e _ _ h2⟩
  | .dt _ _, _, ⟨vs, h1, h3, h2⟩ => ⟨vs, h1, h3, DRs.mono e _ _ h2⟩
  | .fk _ _, _, ⟨vs, od, h1, h3, h2⟩ => ⟨vs, od, h1, h3, DRs.mono e _ _ h2⟩
  | .ft _ _, _, ⟨vs, od, h1, h3, h2⟩ => ⟨vs, od, h1, h3, DRs.mono e _ _ h2⟩
  | .ins _ _ _, _, ⟨vs, C, dx, h1, hn, h3, h2⟩ => ⟨vs, C, dx, h1, hn, h3, DRs.mono e _ _ h2⟩
def OC.d : OC → D
  | .lst ds => .lst ds
  | .dk ks ds => .dk ks ds
  | .dt ks ds => .dt ks ds
  | .fk ks ds => .dk ks ds
  | .ft ks ds => .dt ks ds
  | .ins cn ns ds => .obj cn ns ds
theorem OCR.dr {K : PySem.W.Frag} {H0 : Hp} {c : OC} {a : Addr} {o : HO} (n : H0 a = none) (h : OCR K H0 c o) : DR K (upd H0 a o) c.d (.ref a) := by
  have s0 : Same H0 (upd H0 a o) := fun b u e => by
    rw [upd_ne (fun z => by subst z; rw [n] at e; cases e)]; exact e
  cases c with
  | lst ds => obtain ⟨vs, rfl, r⟩ := h; exact ⟨a, vs, rfl, SqL.of upd_same, DRs.mono s0 _ _ r⟩
  | dk ks ds => obtain ⟨vs, rfl, l, r⟩ := h; exact ⟨a, vs, rfl, .inl upd_same, l, DRs.mono s0 _ _ r⟩
  | dt ks ds => obtain ⟨vs, rfl, l, r⟩ := h; exact ⟨a, vs, rfl, .inl upd_same, l, DRs.mono s0 _ _ r⟩
  | fk ks ds => obtain ⟨vs, od, rfl, l, r⟩ := h; exact ⟨a, vs, rfl, .inr ⟨od, upd_same⟩, l, DRs.mono s0 _ _ r⟩
  | ft ks ds => obtain ⟨vs, od, rfl, l, r⟩ := h; exact ⟨a, vs, rfl, .inr ⟨od, upd_same⟩, l, DRs.mono s0 _ _ r⟩
  | ins cn ns ds => obtain ⟨vs, C, dx, rfl, hn, l, r⟩ := h; exact ⟨a, C, dx, vs, rfl, hn, upd_same, l, DRs.mono s0 _ _ r⟩
inductive Sl where
  | no | sh (d : D) | ow (c : OC)
  /-- what is at d, and things of its own at places that are told -/
  | ox (cs : List (Addr × OC)) (d : D)
/-- a thing of its own stands at a place -/
structure CellR (K : PySem.W.Frag) (B H0 H : Hp) (a : Addr) (c : OC) : Prop where
  ex : ∃ o, H a = some o ∧ H0 a = none ∧ B a = none ∧ OCR K H0 c o
def SlR (K : PySem.W.Frag) (B H0 H : Hp) : Sl → Option V → Prop
  | .no, _ => True
  | .sh d, ov => ∃ v, ov = some v ∧ DR K H0 d v
  | .ow c, ov => ∃ a o, ov = some (.ref a) ∧ H a = some o ∧ H0 a = none ∧ B a = none ∧ OCR K H0 c o
  | .ox cs d, ov => (∃ v, ov = some v ∧ DR K H0 d v) ∧ (∀ p ∈ cs, CellR K B H0 H p.1 p.2) ∧ (cs.map (·.1)).Nodup
/-- the places of what a slot owns -/
def Owns : Sl → Option V → Addr → Prop
  | .ow _, ov, a => ov = some (.ref a)
  | .ox cs _, _, a => a ∈ cs.map (·.1)
  | _, _, _ => False
abbrev En := List Sl
structure J (K : PySem.W.Frag) (B0 B : Hp) (σ : St) (H0 H : Hp) (ρ : En) : Prop where
  hp : JH B0 B H0 H
  len : σ.length = ρ.length
  sl : ∀ (i : Nat) s ov, ρ[i]? = some s → σ[i]? = some ov → SlR K B H0 H s ov
  dis : ∀ (i j : Nat) s s' ov ov' a, ρ[i]? = some s → ρ[j]? = some s' → σ[i]? = some ov → σ[j]? = some ov' → Owns s ov a → Owns s' ov' a → i = j
section
variable {K : PySem.W.Frag} {B0 B H0 H H0' H' : Hp} {σ σ' : St} {ρ ρ' : En}
theorem J.get (j : J K B0 B σ H0 H ρ) {i : Nat} {s : Sl} (h : ρ[i]? = some s) : ∃ ov, σ[i]? = some ov ∧ SlR K B H0 H s ov := by
  have hi : i < σ.length := by
    have := (List.getElem?_eq_some_iff.mp h).1
    rw [j.len]; exact this
  exact ⟨σ[i], by simp [hi], j.sl i s σ[i] h (by simp [hi])⟩
theorem CellR.grow (g : JH H0 H H0' H') {a : Addr} {c : OC} (h : CellR K B H0 H a c) : CellR K B H0' H' a c := by
  obtain ⟨o, h2, h3, h4, h5⟩ := h
  exact ⟨o, g.sB _ _ h2, g.fr _ _ h2 h5.nt h3, h4, h5.mono g.s0⟩
theorem SlR.grow (g : JH H0 H H0' H') {s : Sl} {ov : Option V} (h : SlR K B H0 H s ov) : SlR K B H0' H' s ov := by
  cases s with
  | no => trivial
  | sh d => obtain ⟨v, h1, h2⟩ := h; exact ⟨v, h1, DR.mono g.s0 _ _ h2⟩
  | ow c => obtain ⟨a, o, h1, h2, h3, h4, h5⟩ := h; exact ⟨a, o, h1, g.sB _ _ h2, g.fr _ _ h2 h5.nt h3, h4, h5.mono g.s0⟩
  | ox cs d => obtain ⟨⟨v, h1, h2⟩, h3, h4⟩ := h; exact ⟨⟨v, h1, DR.mono g.s0 _ _ h2⟩, fun p hp => (h3 p hp).grow g, h4⟩
theorem J.grow (j : J K B0 B σ H0 H ρ) (g : JH H0 H H0' H') : J K B0 B σ H0' H' ρ :=
  ⟨j.hp.trans g, j.len, fun i s ov h1 h2 => (j.sl i s ov h1 h2).grow g, j.dis⟩
theorem J.same (j : J K B0 B σ H0 H ρ) : Same H0 H := j.hp.sh
theorem set_get {α : Type} {l : List α} {i j : Nat} {x y : α} (h : (l.set i x)[j]? = some y) : (j = i ∧ y = x ∧ i < l.length) ∨ (j ≠ i ∧ l[j]? = some y) := by
  by_cases e : i = j
  · subst e
    by_cases hl : i < l.length
    · rw [List.getElem?_set_self hl] at h
      exact .inl ⟨rfl, (Option.some.inj h).symm, hl⟩
    · rw [List.getElem?_eq_none (by simpa using hl)] at h; cases h
  · rw [List.getElem?_set_ne e] at h
    exact .inr ⟨fun z => e z.symm, h⟩
/-- what a slot owns is there, not shared, and new since the base -/
theorem J.own (j : J K B0 B σ H0 H ρ) {i : Nat} {s : Sl} {ov : Option V} {a : Addr} (h : ρ[i]? = some s) (hσ : σ[i]? = some ov) (w : Owns s ov a) : ∃ o, H a = some o ∧ H0 a = none ∧ B a = none := by
  have r := j.sl i s ov h hσ
  cases s with
  | no => cases w
  | sh d => cases w
  | ow c =>
    obtain ⟨b, o, e, h2, h3, h4, _⟩ := r
    cases e.symm.trans (show ov = _ from w)
    exact ⟨o, h2, h3, h4⟩
  | ox cs d =>
    obtain ⟨p, hp, rfl⟩ := List.mem_map.mp (show a ∈ cs.map (·.1) from w)
    obtain ⟨o, h2, h3, h4, _⟩ := (r.2.1 p hp).ex
    exact ⟨o, h2, h3, h4⟩
/-- a slot is changed: the heap stays; what it owns then it owned before -/
theorem J.setTo (j : J K B0 B σ H0 H ρ) {i : Nat} {s : Sl} {ov : Option V} (r : SlR K B H0 H s ov) (n : ∀ a, Owns s ov a → ∀ k s' ov', k ≠ i → ρ[k]? = some s' → σ[k]? = some ov' → ¬ Owns s' ov' a) : J K B0 B (σ.set i ov) H0 H (ρ.set i s) := by
  refine ⟨j.hp, by simp [j.len], fun k s1 ov1 h1 h2 => ?_, fun k l s1 s2 o1 o2 a h1 h2 h3 h4 w1 w2 => ?_⟩
  · rcases set_get h1 with ⟨rfl, rfl, _⟩ | ⟨ne, h1⟩
    · rcases set_get h2 with ⟨_, rfl, _⟩ | ⟨ne, _⟩
      · exact r
      · exact absurd rfl ne
    · rcases set_get h2 with ⟨e, _, _⟩ | ⟨_, h2⟩
      · exact absurd e ne
      · exact j.sl k s1 ov1 h1 h2
  · rcases set_get h1 with ⟨e1, q1, _⟩ | ⟨n1, g1⟩
    · rcases set_get h2 with ⟨e2, _, _⟩ | ⟨n2, g2⟩
      · rw [e1, e2]
      · rcases set_get h3 with ⟨_, q3, _⟩ | ⟨n3, _⟩
        · rw [q1, q3] at w1
          rw [List.getElem?_set_ne (Ne.symm n2)] at h4
          exact absurd w2 (n a w1 l s2 o2 n2 g2 h4)
        · exact absurd e1 n3
    · rcases set_get h2 with ⟨e2, q2, _⟩ | ⟨n2, g2⟩
      · rcases set_get h4 with ⟨_, q4, _⟩ | ⟨n4, _⟩
        · rw [q2, q4] at w2
          rw [List.getElem?_set_ne (Ne.symm n1)] at h3
          exact absurd w1 (n a w2 k s1 o1 n1 g1 h3)
        · exact absurd e2 n4
      · rw [List.getElem?_set_ne (Ne.symm n1)] at h3
        rw [List.getElem?_set_ne (Ne.symm n2)] at h4
        exact j.dis k l s1 s2 o1 o2 a g1 g2 h3 h4 w1 w2
/-- .. and its value too stays -/
theorem J.setSl (j : J K B0 B σ H0 H ρ) {i : Nat} {s : Sl} {ov : Option V} (hσ : σ[i]? = some ov) (r : SlR K B H0 H s ov) (n : ∀ a, Owns s ov a → ∀ k s' ov', k ≠ i → ρ[k]? = some s' → σ[k]? = some ov' → ¬ Owns s' ov' a) : J K B0 B σ H0 H (ρ.set i s) := by
  have q := j.setTo (i := i) r n
  have e : σ.set i ov = σ := by
    refine List.ext_getElem? fun k => ?_
    by_cases hk : i = k
    · subst hk
      rw [hσ, List.getElem?_set_self (List.getElem?_eq_some_iff.mp hσ).1]
    · rw [List.getElem?_set_ne hk]
  rwa [e] at q
theorem J.sub (j : J K B0 B σ H0 H ρ) {i : Nat} {s s0 : Sl} {ov : Option V} (h : ρ[i]? = some s0) (hσ : σ[i]? = some ov) (w : ∀ a, Owns s ov a → Owns s0 ov a) : ∀ a, Owns s ov a → ∀ k s' ov', k ≠ i → ρ[k]? = some s' → σ[k]? = some ov' → ¬ Owns s' ov' a :=
  fun a w1 k s' ov' ne h1 h2 w2 => ne (j.dis k i s' s0 ov' ov a h1 h h2 hσ w2 (w a w1))
theorem Owns.none {s : Sl} {ov : Option V} (h : s = .no ∨ ∃ d, s = .sh d) (a : Addr) : ¬ Owns s ov a := by
  rcases h with rfl | ⟨d, rfl⟩ <;> exact fun w => w
/-- a slot gets a value that is shared -/
theorem J.setSh (j : J K B0 B σ H0 H ρ) {i : Nat} {d : D} {v : V} (h : DR K H0 d v) : J K B0 B (σ.set i (some v)) H0 H (ρ.set i (.sh d)) :=
  j.setTo (s := .sh d) ⟨v, rfl, h⟩ fun a w => w.elim
/-- a slot is forgotten -/
theorem J.drop (j : J K B0 B σ H0 H ρ) (i : Nat) : J K B0 B σ H0 H (ρ.set i .no) := by
  by_cases hi : i < σ.length
  · exact j.setSl (s := .no) (ov := σ[i]) (by simp [hi]) True.intro fun a w => w.elim
  · have e : ρ.set i .no = ρ := List.set_eq_of_length_le (by rw [← j.len]; omega)
    rw [e]; exact j
/-- a slot gets a new thing of its own -/
theorem J.setOwn (j : J K B0 B σ H0 H ρ) {i : Nat} {c : OC} {a : Addr} {o : HO} (h : H a = some o) (h0 : H0 a = none) (hB : B a = none) (n : ∀ (k : Nat) s ov, k ≠ i → ρ[k]? = some s → σ[k]? = some ov → ¬ Owns s ov a) (r : OCR K H0 c o) :
    J K B0 B (σ.set i (some (.ref a))) H0 H (ρ.set i (.ow c)) :=
  j.setTo (s := .ow c) ⟨a, o, rfl, h, h0, hB, r⟩ fun b w k s' ov' ne h1 h2 w2 => by
    cases (show some (V.ref a) = some (.ref b) from w)
    exact n k s' ov' ne h1 h2 w2
theorem upd_keep {H : Hp} {a b : Addr} {o u : HO} (h : H b = some u) (n : b ≠ a) : upd H a o b = some u := by rw [upd_ne n]; exact h
theorem CellR.keep {a b : Addr} {c : OC} {o : HO} (h : CellR K B H0 H b c) (n : b ≠ a) : CellR K B H0 (upd H a o) b c := by
  obtain ⟨u, h1, h2⟩ := h
  exact ⟨u, upd_keep h1 n, h2⟩
/-- what slot i owns at a is changed -/
theorem J.writeAt (j : J K B0 B σ H0 H ρ) {i : Nat} {s s' : Sl} {ov : Option V} {a : Addr} {o : HO} (h : ρ[i]? = some s) (hσ : σ[i]? = some ov) (w : Owns s ov a) (ws : ∀ b, Owns s' ov b ↔ Owns s ov b) (r : SlR K B H0 (upd H a o) s' ov) : J K B0 B σ H0 (upd H a o) (ρ.set i s') := by
  obtain ⟨o', h1, h2, h3⟩ := j.own h hσ w
  have ne : ∀ b u, H0 b = some u → b ≠ a := fun b u e z => by subst z; rw [h2] at e; cases e
  have neB : ∀ b u, B b = some u → b ≠ a := fun b u e z => by subst z; rw [h3] at e; cases e
  refine ⟨⟨j.hp.s0, fun b u e => upd_keep (j.hp.sh b u e) (ne b u e), fun b u e => upd_keep (j.hp.sB b u e) (neB b u e), j.hp.fr⟩, by simp [j.len], fun k s1 ov1 g1 g2 => ?_, fun k l s1 s2 o1 o2 b g1 g2 g3 g4 w1 w2 => ?_⟩
  · rcases set_get g1 with ⟨rfl, rfl, _⟩ | ⟨nk, g1⟩
    · rw [hσ] at g2; cases g2
      exact r
    · have q := j.sl k s1 ov1 g1 g2
      have nb : ∀ b, Owns s1 ov1 b → b ≠ a := fun b w1 z => by
        subst z
        exact nk (j.dis k i s1 s ov1 ov b g1 h g2 hσ w1 w)
      cases s1 with
      | no => trivial
      | sh d => exact q
      | ow c2 =>
        obtain ⟨b, ob, f1, f2, f3, f4, f5⟩ := q
        exact ⟨b, ob, f1, upd_keep f2 (nb b f1), f3, f4, f5⟩
      | ox cs d =>
        obtain ⟨q1, q2, q3⟩ := q
        exact ⟨q1, fun p hp => (q2 p hp).keep (nb p.1 (List.mem_map.mpr ⟨p, hp, rfl⟩)), q3⟩
  · have p : ∀ {m : Nat} {s3 : Sl} {o3 : Option V}, (ρ.set i s')[m]? = some s3 → σ[m]? = some o3 → Owns s3 o3 b → ∃ s4, ρ[m]? = some s4 ∧ Owns s4 o3 b := fun {m s3 o3} g gσ w3 => by
      rcases set_get g with ⟨rfl, rfl, _⟩ | ⟨_, g⟩
      · rw [hσ] at gσ; cases gσ
        exact ⟨s, h, (ws b).mp w3⟩
      · exact ⟨s3, g, w3⟩
    obtain ⟨s5, f1, f2⟩ := p g1 g3 w1
    obtain ⟨s6, f3, f4⟩ := p g2 g4 w2
    exact j.dis k l s5 s6 o1 o2 b f1 f3 g3 g4 f2 f4
/-- what a slot owns is changed -/
theorem J.write (j : J K B0 B σ H0 H ρ) {i : Nat} {c c' : OC} {a : Addr} {o : HO} (h : ρ[i]? = some (.ow c)) (hσ : σ[i]? = some (some (.ref a))) (r : OCR K H0 c' o) : J K B0 B σ H0 (upd H a o) (ρ.set i (.ow c')) := by
  obtain ⟨o', h1, h2, h3⟩ := j.own h hσ (show Owns (.ow c) (some (.ref a)) a from rfl)
  exact j.writeAt h hσ rfl (fun b => Iff.rfl) ⟨a, o, rfl, upd_same, h2, h3, r⟩
/-- what a slot owns at a place is given to all -/
theorem J.shareAt (j : J K B0 B σ H0 H ρ) {i : Nat} {s : Sl} {ov : Option V} {a : Addr} {c : OC} {o : HO} (h : ρ[i]? = some s) (hσ : σ[i]? = some ov) (w : Owns s ov a) (h1 : H a = some o) (h4 : OCR K H0 c o) {s' : Sl}
    (ws : ∀ b, Owns s' ov b → Owns s ov b ∧ b ≠ a) (r : DR K (upd H0 a o) c.d (.ref a) → SlR K B (upd H0 a o) H s' ov) : J K B0 B σ (upd H0 a o) H (ρ.set i s') ∧ Same H0 (upd H0 a o) := by
  obtain ⟨o', h1', h2, h3⟩ := j.own h hσ w
  have ne : ∀ b u, H0 b = some u → b ≠ a := fun b u e z => by subst z; rw [h2] at e; cases e
  have s0 : Same H0 (upd H0 a o) := fun b u e => upd_keep e (ne b u e)
  have dr : DR K (upd H0 a o) c.d (.ref a) := by
    exact OCR.dr h2 h4
  refine ⟨⟨⟨j.hp.s0.trans s0, fun b u e => ?_, j.hp.sB, fun b u e nt e' => ?_⟩, by simp [j.len], fun k s1 ov1 g1 g2 => ?_, fun k l s1 s2 o1 o2 b g1 g2 g3 g4 w1 w2 => ?_⟩, s0⟩
  · by_cases hb : b = a
    · subst hb; rw [upd_same] at e; cases e; exact h1
    · rw [upd_ne hb] at e; exact j.hp.sh b u e
  · rw [upd_ne (fun z => by subst z; rw [h3] at e; cases e)]; exact j.hp.fr b u e nt e'
  · rcases set_get g1 with ⟨rfl, rfl, _⟩ | ⟨nk, g1⟩
    · rw [hσ] at g2; cases g2
      exact r dr
    · have q := j.sl k s1 ov1 g1 g2
      have nb : ∀ b, Owns s1 ov1 b → b ≠ a := fun b w1 z => by
        subst z
        exact nk (j.dis k i s1 s ov1 ov b g1 h g2 hσ w1 w)
      cases s1 with
      | no => trivial
      | sh d => obtain ⟨v, f1, f2⟩ := q; exact ⟨v, f1, DR.mono s0 _ _ f2⟩
      | ow c2 =>
        obtain ⟨b, ob, f1, f2, f3, f4, f5⟩ := q
        exact ⟨b, ob, f1, f2, by rw [upd_ne (nb b f1)]; exact f3, f4, f5.mono s0⟩
      | ox cs d =>
        obtain ⟨⟨v, f1, f2⟩, q2, q3⟩ := q
        refine ⟨⟨v, f1, DR.mono s0 _ _ f2⟩, fun p hp => ?_, q3⟩
        obtain ⟨ob, f2, f3, f4, f5⟩ := (q2 p hp).ex
        exact ⟨ob, f2, by rw [upd_ne (nb p.1 (List.mem_map.mpr ⟨p, hp, rfl⟩))]; exact f3, f4, f5.mono s0⟩
  · have p : ∀ {m : Nat} {s3 : Sl} {o3 : Option V}, (ρ.set i s')[m]? = some s3 → σ[m]? = some o3 → Owns s3 o3 b → ∃ s4, ρ[m]? = some s4 ∧ Owns s4 o3 b := fun {m s3 o3} g gσ w3 => by
      rcases set_get g with ⟨rfl, rfl, _⟩ | ⟨_, g⟩
      · rw [hσ] at gσ; cases gσ
        exact ⟨s, h, (ws b w3).1⟩
      · exact ⟨s3, g, w3⟩
    obtain ⟨s5, f1, f2⟩ := p g1 g3 w1
    obtain ⟨s6, f3, f4⟩ := p g2 g4 w2
    exact j.dis k l s5 s6 o1 o2 b f1 f3 g3 g4 f2 f4
/-- what a slot owns is given to all -/
theorem J.share (j : J K B0 B σ H0 H ρ) {i : Nat} {c : OC} (h : ρ[i]? = some (.ow c)) : ∃ H0', J K B0 B σ H0' H (ρ.set i (.sh c.d)) ∧ Same H0 H0' := by
  obtain ⟨ov, e1, a, o, e2, h1, h2, h3, h4⟩ := j.get h
  subst e2
  exact ⟨_, j.shareAt (s' := .sh c.d) h e1 rfl h1 h4 (fun b w => w.elim) fun r => ⟨_, rfl, r⟩⟩
/-- the shared part as it is now for a new base -/
theorem J.rebase (j : J K B0 B σ H0 H ρ) : J K H0 B σ H0 H ρ := ⟨⟨Same.refl _, j.hp.sh, j.hp.sB, fun _ _ _ _ h => h⟩, j.len, j.sl, j.dis⟩
theorem J.unbase (j : J K B0 B σ H0 H ρ) (j' : J K H0 B σ' H0' H' ρ') : J K B0 B σ' H0' H' ρ' :=
  ⟨⟨j.hp.s0.trans j'.hp.s0, j'.hp.sh, j'.hp.sB, fun a o h n h' => j'.hp.fr a o h n (j.hp.fr a o h n h')⟩, j'.len, j'.sl, j'.dis⟩
theorem CellR.new {a : Addr} {c : OC} {o : HO} (h : H a = some o) (h0 : H0 a = none) (hB : B a = none) (r : OCR K H0 c o) : CellR K B H0 H a c := ⟨o, h, h0, hB, r⟩
theorem J.cell (j : J K B0 B σ H0 H ρ) {i : Nat} {cs : List (Addr × OC)} {d : D} (h : ρ[i]? = some (.ox cs d)) {a : Addr} {c : OC} (m : (a, c) ∈ cs) : ∃ o, H a = some o ∧ H0 a = none ∧ B a = none ∧ OCR K H0 c o := by
  obtain ⟨ov, e1, h1, h2, h3⟩ := j.get h
  exact (h2 _ m).ex
/-- one of the places anew -/
def putC (cs : List (Addr × OC)) (a : Addr) (c : OC) : List (Addr × OC) := cs.map fun p => if p.1 = a then (a, c) else p
theorem putC_fst (cs : List (Addr × OC)) (a : Addr) (c : OC) : (putC cs a c).map (·.1) = cs.map (·.1) := by
  unfold putC
  rw [List.map_map]
  refine List.map_congr_left fun p _ => ?_
  show (if p.1 = a then (a, c) else p).1 = p.1
  split
  · rename_i h; exact h.symm
  · rfl
theorem J.put (j : J K B0 B σ H0 H ρ) {i : Nat} {cs : List (Addr × OC)} {d : D} (h : ρ[i]? = some (.ox cs d)) {a : Addr} {c c' : OC} {o : HO} (m : (a, c) ∈ cs) (r : OCR K H0 c' o) : J K B0 B σ H0 (upd H a o) (ρ.set i (.ox (putC cs a c') d)) := by
  obtain ⟨ov, e1, h1, h2, h3⟩ := j.get h
  obtain ⟨o', f1, f2, f3, f4⟩ := j.cell h m
  refine j.writeAt h e1 (List.mem_map.mpr ⟨_, m, rfl⟩) (fun b => by simp only [Owns, putC_fst]) ⟨h1, fun p hp => ?_, by rw [putC_fst]; exact h3⟩
  obtain ⟨q, hq, e⟩ := List.mem_map.mp hp
  by_cases hqa : q.1 = a
  · rw [if_pos hqa] at e
    subst e
    exact .new upd_same f2 f3 r
  · rw [if_neg hqa] at e
    subst e
    exact (h2 q hq).keep hqa
/-- a new thing more -/
theorem J.more (j : J K B0 B σ H0 H ρ) (g : JH H0 H H0' H') {i : Nat} {cs : List (Addr × OC)} {d : D} {a : Addr} {c : OC} {o : HO} (h : ρ[i]? = some (.ox cs d)) (h1 : H' a = some o) (h0 : H0' a = none) (n : H a = none) (r : OCR K H0' c o) : J K B0 B σ H0' H' (ρ.set i (.ox (cs ++ [(a, c)]) d)) := by
  obtain ⟨ov, e1, f1, f2, f3⟩ := (j.grow g).get h
  have nin : ∀ k s' ov', ρ[k]? = some s' → σ[k]? = some ov' → ¬ Owns s' ov' a := fun k s' ov' h1 h2 w => by
    obtain ⟨o, e, _⟩ := j.own h1 h2 w
    rw [n] at e; cases e
  have nm : a ∉ cs.map (·.1) := fun w => nin i _ ov h e1 w
  refine (j.grow g).setSl (s := .ox (cs ++ [(a, c)]) d) e1 ⟨f1, fun p hp => ?_, ?_⟩ fun b w k s' ov' ne g1 g2 w2 => ?_
  · rcases List.mem_append.mp hp with hp | hp
    · exact f2 p hp
    · rw [List.mem_singleton] at hp; subst hp
      exact .new h1 h0 (j.hp.sB.free n) r
  · rw [List.map_append, List.nodup_append]
    refine ⟨f3, by simp, fun x hx y hy => ?_⟩
    have : y = a := by simpa using hy
    subst this
    exact fun e => nm (e ▸ hx)
  · have w' : b ∈ cs.map (·.1) ∨ b = a := by
      have : b ∈ (cs ++ [(a, c)]).map (·.1) := w
      rw [List.map_append, List.mem_append] at this
      simpa using this
    rcases w' with w' | rfl
    · exact ne (j.dis k i s' _ ov' ov b g1 h g2 e1 w2 w')
    · exact nin k s' ov' g1 g2 w2
end
end DL
namespace DL
open PySem PySem.Spec L2
def RE (X : Cx) (e : Expr) : TE := fun σ H Q => ∃ t, PE X e t ∧ t σ H Q
def RT (X : Cx) (e : Expr) : TT := fun σ H Q => ∃ t, PT X e t ∧ t σ H Q
def RW (X : Cx) (e : Expr) : TT := fun σ H Q => ∃ t, PW X e t ∧ t σ H Q
def RA (X : Cx) (es : List Expr) : TA := fun σ H Q => ∃ t, PA X es t ∧ t σ H Q
def RS (X : Cx) (st : Stmt) : TS := fun D σ H => ∃ t, PS X st t ∧ t D σ H
def RSs (X : Cx) (sts : List Stmt) : TS := fun D σ H => ∃ t, PSs X sts t ∧ t D σ H
def RI (X : Cx) (tg iter : Expr) : TI := fun σ H R => ∃ t, PI X tg iter t ∧ t σ H R
def RG (X : Cx) (tg : Expr) : TG := fun v σ H Q => ∃ t, PG X tg t ∧ t v σ H Q
def RGs (X : Cx) (tg : List Expr) : TGs := fun vs σ H Q => ∃ t, PGs X tg t ∧ t vs σ H Q
section
variable {X : Cx}
theorem pe_star {e} : PE X e (RE X e) := ⟨fun pins s σ H Q I ⟨_, h, q⟩ => h.run pins s σ H Q I q⟩
theorem pt_star {e} : PT X e (RT X e) := ⟨fun pins s σ H Q I ⟨_, h, q⟩ => h.run pins s σ H Q I q⟩
theorem pw_star {e} : PW X e (RW X e) := ⟨fun wh pins s σ H Q I ⟨_, h, q⟩ => h.run wh pins s σ H Q I q⟩
theorem pa_star {es} : PA X es (RA X es) := ⟨fun pos pins s σ H Q I ⟨_, h, q⟩ => h.run pos pins s σ H Q I q⟩
theorem ps_star {st} : PS X st (RS X st) := ⟨fun pins s σ H D I ⟨_, h, q⟩ => h.run pins s σ H D I q⟩
theorem pss_star {st} : PSs X st (RSs X st) := ⟨fun pins s σ H D I ⟨_, h, q⟩ => h.run pins s σ H D I q⟩
theorem pi_star {tg it} : PI X tg it (RI X tg it) := ⟨fun pins s σ H R I ⟨_, h, q⟩ => h.run pins s σ H R I q⟩
theorem pg_star {tg} : PG X tg (RG X tg) := ⟨fun pins s σ H v u Q I r ⟨_, h, q⟩ => h.run pins s σ H v u Q I r q⟩
theorem pgs_star {tg} : PGs X tg (RGs X tg) := ⟨fun pins s σ H v u Q I r ⟨_, h, q⟩ => h.run pins s σ H v u Q I r q⟩
theorem RE.of {e t σ H Q} (h : PE X e t) (q : t σ H Q) : RE X e σ H Q := ⟨t, h, q⟩
theorem RT.of {e t σ H Q} (h : PT X e t) (q : t σ H Q) : RT X e σ H Q := ⟨t, h, q⟩
theorem RA.of {e t σ H Q} (h : PA X e t) (q : t σ H Q) : RA X e σ H Q := ⟨t, h, q⟩
end
def ED (X : Cx) (ρ : En) (e : Expr) (d : D) : Prop := ∀ B0 B σ H0 H (Q : VK), J X.K B0 B σ H0 H ρ → (∀ v H0' H', JH H0 H H0' H' → DR X.K H0' d v → Q v H') → RE X e σ H Q
/-- .. that is new and nobody else's -/
def EO (X : Cx) (ρ : En) (e : Expr) (c : OC) : Prop := ∀ B0 B σ H0 H (Q : VK), J X.K B0 B σ H0 H ρ → (∀ a o H0' H', JH H0 H H0' H' → H' a = some o → H0' a = none → H a = none → OCR X.K H0' c o → Q (.ref a) H') → RE X e σ H Q
def TD (X : Cx) (ρ : En) (e : Expr) (b : Bool) : Prop := ∀ B0 B σ H0 H (Q : Bool → Hp → Prop), J X.K B0 B σ H0 H ρ → (∀ H0' H', JH H0 H H0' H' → Q b H') → RT X e σ H Q
def TW (X : Cx) (ρ : En) (e : Expr) (b : Bool) : Prop := ∀ B0 B σ H0 H (Q : Bool → Hp → Prop), J X.K B0 B σ H0 H ρ → (∀ H0' H', JH H0 H H0' H' → Q b H') → RW X e σ H Q
def AD (X : Cx) (ρ : En) (es : List Expr) (ds : List D) : Prop := ∀ B0 B σ H0 H (Q : List V → Hp → Prop), J X.K B0 B σ H0 H ρ → (∀ vs H0' H', JH H0 H H0' H' → DRs X.K H0' ds vs → Q vs H') → RA X es σ H Q
/-- by values: a binary operation, a call of a built-in -/
def O2 (K : PySem.W.Frag) (r : R2) (d e f : D) : Prop := ∀ H0 H x y (Q : VK), Same H0 H → DR K H0 d x → DR K H0 e y → (∀ v H0' H', JH H0 H H0' H' → DR K H0' f v → Q v H') → r x y H Q
structure B2 (X : Cx) (op : Operator) (d e f : D) : Prop where
  ex : ∃ r, OpR X (binaryOp op) r ∧ O2 X.K r d e f
structure C2 (X : Cx) (op : CmpOp) (d e f : D) : Prop where
  ex : ∃ r, OpR X (compareOp op) r ∧ O2 X.K r d e f
structure BC (X : Cx) (f : Value) (ds : List D) (d : D) : Prop where
  ex : ∃ r, CallR X f r ∧ ∀ H0 H vs (Q : VK), Same H0 H → DRs X.K H0 ds vs → (∀ v H0' H', JH H0 H H0' H' → DR X.K H0' d v → Q v H') → r vs H Q
structure BO (X : Cx) (f : Value) (ds : List D) (c : OC) : Prop where
  ex : ∃ r, CallR X f r ∧ ∀ H0 H vs (Q : VK), Same H0 H → DRs X.K H0 ds vs → (∀ a o H0' H', JH H0 H H0' H' → H' a = some o → H0' a = none → H a = none → OCR X.K H0' c o → Q (.ref a) H') → r vs H Q
section
variable {X : Cx} {ρ : En} {e a b c : Expr} {d d1 d2 d3 : D} {pos : Pos}
theorem ED.eq {d' : D} (h : ED X ρ e d) (q : d = d') : ED X ρ e d' := q ▸ h
theorem TD.eq {k k' : Bool} (h : TD X ρ e k) (q : k = k') : TD X ρ e k' := q ▸ h
theorem EO.eq {c c' : OC} (h : EO X ρ e c) (q : c = c') : EO X ρ e c' := q ▸ h
theorem DR.own {K : PySem.W.Frag} {H0 : Hp} {c : OC} {a : Addr} {o : HO} (n : H0 a = none) (h : OCR K H0 c o) : DR K (upd H0 a o) c.d (.ref a) := OCR.dr n h
/-- .. and is given to all at once -/
theorem JH.give {H0 H H0' H' : Hp} {a : Addr} {o : HO} (g : JH H0 H H0' H') (h : H' a = some o) (h0 : H0' a = none) (n : H a = none) : JH H0 H (upd H0' a o) H' := by
  refine ⟨fun b u e => upd_keep (g.s0 b u e) (ne_of_none (g.s0 b u e) h0), fun b u e => ?_, g.sB, fun b u e nt e' => ?_⟩
  · by_cases hb : b = a
    · subst hb; rw [upd_same] at e; cases e; exact h
    · rw [upd_ne hb] at e; exact g.sh b u e
  · rw [upd_ne (ne_of_none e n)]; exact g.fr b u e nt e'
theorem ed_own {c : OC} (h : EO X ρ e c) : ED X ρ e c.d := fun B0 B σ H0 H Q j k =>
  h B0 B σ H0 H Q j fun a o H0' H' g h1 h2 h3 r => k _ (upd H0' a o) H' (g.give h1 h2 h3) (DR.own h2 r)
theorem ed_lst {ds : List D} (h : EO X ρ e (.lst ds)) : ED X ρ e (.lst ds) := ed_own h
theorem ed_var (i : Nat) {x : Str} (hρ : ρ[i]? = some (.sh d)) (hN : X.N[i]? = some x := by rfl) (hv : Vis X.env.scope x := by first | exact Or.inl rfl | exact Or.inr (Or.inl rfl) | exact Or.inr (Or.inr rfl)) (hd : (x == ("__debug__" : Str)) = false := by decide)
    (hcd : (x == ("__classdict__" : Str)) = false := by decide) : ED X ρ (.Name x pos) d := fun B0 B σ H0 H Q j k => by
  obtain ⟨ov, h1, v, rfl, h2⟩ := j.get hρ
  exact RE.of (pe_var hN hv hd hcd) ⟨v, h1, k v H0 H (JH.refl j.same) h2⟩
theorem ed_int {i j} : ED X ρ (.Constant (.int i) j pos) (.int i) := fun B0 B σ H0 H Q j k => RE.of pe_int (k _ H0 H (JH.refl j.same) rfl)
theorem ed_bl {i j} : ED X ρ (.Constant (.bool i) j pos) (.bl i) := fun B0 B σ H0 H Q j k => RE.of pe_bl (k _ H0 H (JH.refl j.same) rfl)
theorem ed_non {j} : ED X ρ (.Constant .none j pos) .non := fun B0 B σ H0 H Q j k => RE.of pe_non (k _ H0 H (JH.refl j.same) rfl)
theorem ed_str {i j} : ED X ρ (.Constant (.str i) j pos) (.str i) := fun B0 B σ H0 H Q j k => RE.of pe_str (k _ H0 H (JH.refl j.same) rfl)
theorem ed_bin {op : Operator} (ha : ED X ρ a d1) (hb : ED X ρ b d2) (ho : B2 X op d1 d2 d) : ED X ρ (.BinOp a op b pos) d := fun B0 B σ H0 H Q j k => by
  obtain ⟨r, h1, h2⟩ := ho
  refine RE.of (pe_op h1 pe_star pe_star) (ha B0 B σ H0 H _ j fun x G0 G g1 r1 => ?_)
  refine hb B0 B σ G0 G _ (j.grow g1) fun y L0 L g2 r2 => ?_
  exact h2 L0 L x y Q g2.sh (DR.mono g2.s0 _ _ r1) r2 fun v M0 M g3 r3 => k v M0 M ((g1.trans g2).trans g3) r3
theorem ed_cmp {op : CmpOp} (ha : ED X ρ a d1) (hb : ED X ρ b d2) (ho : C2 X op d1 d2 d) (hm : behindInMarks op b = false := by first | exact nomark _ | rfl) : ED X ρ (.Compare a [op] [b] pos) d := fun B0 B σ H0 H Q j k => by
  obtain ⟨r, h1, h2⟩ := ho
  refine RE.of (pe_cmpR h1 pe_star pe_star hm) (ha B0 B σ H0 H _ j fun x G0 G g1 r1 => ?_)
  refine hb B0 B σ G0 G _ (j.grow g1) fun y L0 L g2 r2 => ?_
  exact h2 L0 L x y Q g2.sh (DR.mono g2.s0 _ _ r1) r2 fun v M0 M g3 r3 => k v M0 M ((g1.trans g2).trans g3) r3
theorem td_cmp {op : CmpOp} {k : Bool} (ha : ED X ρ a d1) (hb : ED X ρ b d2) (ho : C2 X op d1 d2 (.bl k)) (hm : behindInMarks op b = false := by first | exact nomark _ | rfl) : TD X ρ (.Compare a [op] [b] pos) k := fun B0 B σ H0 H Q j kk => by
  obtain ⟨r, h1, h2⟩ := ho
  refine RT.of (pt_cmpR h1 pe_star pe_star hm) (ha B0 B σ H0 H _ j fun x G0 G g1 r1 => ?_)
  refine hb B0 B σ G0 G _ (j.grow g1) fun y L0 L g2 r2 => ?_
  refine h2 L0 L x y _ g2.sh (DR.mono g2.s0 _ _ r1) r2 fun v M0 M g3 r3 => ⟨k, r3, kk M0 M ((g1.trans g2).trans g3)⟩
theorem ed_chain {op op' : CmpOp} {k k' : Bool} (ha : ED X ρ a d1) (hb : ED X ρ b d2) (hc : ED X ρ c d3) (ho : C2 X op d1 d2 (.bl k)) (ho' : C2 X op' d2 d3 (.bl k')) (hm : lastMarks [op, op'] [b, c] = false := by with_unfolding_all rfl) :
    ED X ρ (.Compare a [op, op'] [b, c] pos) (.bl (k && k')) := fun B0 B σ H0 H Q j kk => by
  obtain ⟨r, h1, h2⟩ := ho
  obtain ⟨r', h1', h2'⟩ := ho'
  refine RE.of (pe_chain h1 h1' pe_star pe_star pe_star hm) (ha B0 B σ H0 H _ j fun x G0 G g1 r1 => ?_)
  refine hb B0 B σ G0 G _ (j.grow g1) fun y L0 L g2 r2 => ?_
  refine h2 L0 L x y _ g2.sh (DR.mono g2.s0 _ _ r1) r2 fun v M0 M g3 r3 => ⟨k, r3, ?_⟩
  cases k with
  | false => exact iteF (kk _ M0 M ((g1.trans g2).trans g3) rfl)
  | true =>
    refine iteT (hc B0 B σ M0 M _ (((j.grow g1).grow g2).grow g3) fun z N0 N g4 r4 => ?_)
    exact h2' N0 N y z Q g4.sh (DR.mono (g3.trans g4).s0 _ _ r2) r4 fun v P0 P g5 r5 => kk v P0 P (((g1.trans g2).trans (g3.trans g4)).trans g5) (by simpa using r5)
theorem td_chain {op op' : CmpOp} {k k' : Bool} (ha : ED X ρ a d1) (hb : ED X ρ b d2) (hc : ED X ρ c d3) (ho : C2 X op d1 d2 (.bl k)) (ho' : C2 X op' d2 d3 (.bl k')) (hm : lastMarks [op, op'] [b, c] = false := by with_unfolding_all rfl) :
    TD X ρ (.Compare a [op, op'] [b, c] pos) (k && k') := fun B0 B σ H0 H Q j kk => by
  obtain ⟨r, h1, h2⟩ := ho
  obtain ⟨r', h1', h2'⟩ := ho'
  refine RT.of (pt_chain h1 h1' pe_star pe_star pe_star hm) (ha B0 B σ H0 H _ j fun x G0 G g1 r1 => ?_)
  refine hb B0 B σ G0 G _ (j.grow g1) fun y L0 L g2 r2 => ?_
  refine h2 L0 L x y _ g2.sh (DR.mono g2.s0 _ _ r1) r2 fun v M0 M g3 r3 => ⟨k, r3, ?_⟩
  cases k with
  | false => exact iteF ⟨_, rfl, kk M0 M ((g1.trans g2).trans g3)⟩
  | true =>
    refine iteT (hc B0 B σ M0 M _ (((j.grow g1).grow g2).grow g3) fun z N0 N g4 r4 => ?_)
    exact h2' N0 N y z _ g4.sh (DR.mono (g3.trans g4).s0 _ _ r2) r4 fun v P0 P g5 r5 => ⟨k', r5, kk P0 P (((g1.trans g2).trans (g3.trans g4)).trans g5)⟩
theorem td_not {k : Bool} (h : TD X ρ a k) : TD X ρ (.UnaryOp .Not a pos) (!k) := fun B0 B σ H0 H Q j kk =>
  RT.of (pt_not pt_star) (h B0 B σ H0 H _ j fun H0' H' g => kk H0' H' g)
theorem tw_and1 {k : Bool} (h : TD X ρ a k) : TW X ρ (.BoolOp .And [a] pos) k := fun B0 B σ H0 H Q j kk => ⟨_, pw_and1 pt_star, h B0 B σ H0 H _ j kk⟩
theorem tw_or1 {k : Bool} (h : TD X ρ a k) : TW X ρ (.BoolOp .Or [a] pos) k := fun B0 B σ H0 H Q j kk => ⟨_, pw_or1 pt_star, h B0 B σ H0 H _ j kk⟩
theorem tw_and {k k' : Bool} {rest : List Expr} (h : TD X ρ a k) (h' : k = true → TW X ρ (.BoolOp .And (b :: rest) pos) k') : TW X ρ (.BoolOp .And (a :: b :: rest) pos) (k && k') := fun B0 B σ H0 H Q j kk => by
  refine ⟨_, pw_and pt_star pw_star, h B0 B σ H0 H _ j fun H0' H' g => ?_⟩
  cases k with
  | false => exact iteF (kk H0' H' g)
  | true => exact iteT (h' rfl B0 B σ H0' H' _ (j.grow g) fun G0 G g2 => kk G0 G (g.trans g2))
theorem tw_or {k k' : Bool} {rest : List Expr} (h : TD X ρ a k) (h' : k = false → TW X ρ (.BoolOp .Or (b :: rest) pos) k') : TW X ρ (.BoolOp .Or (a :: b :: rest) pos) (k || k') := fun B0 B σ H0 H Q j kk => by
  refine ⟨_, pw_or pt_star pw_star, h B0 B σ H0 H _ j fun H0' H' g => ?_⟩
  cases k with
  | true => exact iteT (kk H0' H' g)
  | false => exact iteF (h' rfl B0 B σ H0' H' _ (j.grow g) fun G0 G g2 => kk G0 G (g.trans g2))
theorem td_tw {k : Bool} (h : TW X ρ e k) : TD X ρ e k := fun B0 B σ H0 H Q j kk => by
  obtain ⟨t, h1, h2⟩ := h B0 B σ H0 H Q j kk
  exact ⟨t, h1.pt, h2⟩
/-- and, or as values -/
theorem ed_one {op} (h : ED X ρ a d) : ED X ρ (.BoolOp op [a] pos) d := fun B0 B σ H0 H Q j kk => RE.of (pe_one pe_star) (h B0 B σ H0 H _ j kk)
theorem ed_and {k k' : Bool} {rest : List Expr} (h : ED X ρ a (.bl k)) (h' : k = true → ED X ρ (.BoolOp .And (b :: rest) pos) (.bl k')) : ED X ρ (.BoolOp .And (a :: b :: rest) pos) (.bl (k && k')) := fun B0 B σ H0 H Q j kk => by
  refine RE.of (pe_and pe_star pe_star) (h B0 B σ H0 H _ j fun v H0' H' g r => ⟨k, r, ?_⟩)
  cases k with
  | false => exact iteF (kk _ H0' H' g rfl)
  | true => exact iteT (h' rfl B0 B σ H0' H' _ (j.grow g) fun v G0 G g2 r2 => kk v G0 G (g.trans g2) r2)
theorem ed_or {k k' : Bool} {rest : List Expr} (h : ED X ρ a (.bl k)) (h' : k = false → ED X ρ (.BoolOp .Or (b :: rest) pos) (.bl k')) : ED X ρ (.BoolOp .Or (a :: b :: rest) pos) (.bl (k || k')) := fun B0 B σ H0 H Q j kk => by
  refine RE.of (pe_or pe_star pe_star) (h B0 B σ H0 H _ j fun v H0' H' g r => ⟨k, r, ?_⟩)
  cases k with
  | true => exact iteT (kk _ H0' H' g rfl)
  | false => exact iteF (h' rfl B0 B σ H0' H' _ (j.grow g) fun v G0 G g2 r2 => kk v G0 G (g.trans g2) r2)
theorem ed_if {k : Bool} (h : TD X ρ c k) (h1 : k = true → ED X ρ a d) (h2 : k = false → ED X ρ b d) : ED X ρ (.IfExp c a b pos) d := fun B0 B σ H0 H Q j kk => by
  refine RE.of (pe_ifExp pt_star pe_star pe_star) (h B0 B σ H0 H _ j fun H0' H' g => ?_)
  cases k with
  | true => exact iteT (h1 rfl B0 B σ H0' H' _ (j.grow g) fun v G0 G g2 r2 => kk v G0 G (g.trans g2) r2)
  | false => exact iteF (h2 rfl B0 B σ H0' H' _ (j.grow g) fun v G0 G g2 r2 => kk v G0 G (g.trans g2) r2)
theorem ed_neg {i : Int} (h : ED X ρ a (.int i)) : ED X ρ (.UnaryOp .USub a pos) (.int (-i)) := fun B0 B σ H0 H Q j kk =>
  RE.of (pe_un un_neg pe_star) (h B0 B σ H0 H _ j fun v H0' H' g r => ⟨i, r, kk _ H0' H' g rfl⟩)
theorem ad_nil : AD X ρ [] [] := fun B0 B σ H0 H Q j k => RA.of pa_nil (k [] H0 H (JH.refl j.same) rfl)
theorem ad_cons {es : List Expr} {ds : List D} (h : ED X ρ e d) (r : AD X ρ es ds) (hs : starEach (e :: es) X.env = (false, eval e X.env) :: starEach es X.env := by rfl) : AD X ρ (e :: es) (d :: ds) := fun B0 B σ H0 H Q j k =>
  RA.of (pa_cons pe_star pa_star hs) (h B0 B σ H0 H _ j fun v G0 G g1 r1 => r B0 B σ G0 G _ (j.grow g1) fun vs L0 L g2 r2 => k (v :: vs) L0 L (g1.trans g2) ⟨v, vs, rfl, DR.mono g2.s0 _ _ r1, r2⟩)
theorem ed_tup {es : List Expr} {ds : List D} {x1} (h : AD X ρ es ds) (hl : ds.length ≤ sizeLine := by first | decide | (simp only [List.length_cons, List.length_nil]; decide)) : ED X ρ (.Tuple es x1 pos) (.tup ds) := fun B0 B σ H0 H Q j k =>
  RE.of (pe_tup pa_star) (h B0 B σ H0 H _ j fun vs G0 G g r => ⟨by rw [← r.length]; exact hl, fun p hp => by
    have g2 : JH G0 G (upd G0 p (.tup vs)) (upd G p (.tup vs)) := JH.new g.sh hp
    exact k _ _ _ (g.trans g2) ⟨p, vs, rfl, SqT.of upd_same, DRs.mono g2.s0 _ _ r⟩⟩)
theorem eo_lst {es : List Expr} {ds : List D} (h : AD X ρ es ds) (hl : ds.length ≤ sizeLine := by first | decide | (simp only [List.length_cons, List.length_nil]; decide)) : EO X ρ (.List es pos) (.lst ds) := fun B0 B σ H0 H Q j k =>
  RE.of (pe_lst pa_star) (h B0 B σ H0 H _ j fun vs G0 G g r => ⟨by rw [← r.length]; exact hl, fun p hp => by
    have g2 : JH G0 G G0 (upd G p (.lst vs)) := JH.own g.sh hp
    exact k p _ _ _ (g.trans g2) upd_same (g.sh.free hp) (g.sB.free hp) ⟨vs, rfl, r⟩⟩)
def spR (K : PySem.W.Frag) (R : List D → D → Prop) : Sp := fun vs H Q _ => ∃ H0 ds d, Same H0 H ∧ DRs K H0 ds vs ∧ R ds d ∧ ∀ r H0' H', JH H0 H H0' H' → DR K H0' d r → Q r H'
/-- a def of the program at hand -/
structure Fn (P : Program) (w : World) (K : PySem.W.Frag) (mg : Str → Option Value) (base : Heap) (x : Str) (k : Nat) (R : List D → D → Prop) : Prop where
  ex : ∃ f fd ps, FnOk P w K mg base CX0 k f fd ps (spR K R) ∧ mg x = some (.ref f) ∧ PySem.W.keepIn K (.ref f) = true ∧ Binds K fd ps []
theorem ed_call {x : Str} {k : Nat} {R : List D → D → Prop} {es : List Expr} {ds : List D} {p : Pos} (G : Fn X.prog X.w X.K X.mg X.base x k R) (hr : Room k X.A) (hg : Gl X x) (ha : AD X ρ (e :: es) ds) (hR : R ds d)
    (hdb : (x == ("__debug__" : Str)) = false := by decide) (he : starEach (e :: es) X.env = (false, eval e X.env) :: starEach es X.env := by rfl) (hpl : (backTo pos (starEach es X.env)).any (·.1) = false := by rfl) :
    ED X ρ (.Call (.Name x p) (e :: es) [] pos) d := fun B0 B σ H0 H Q j kk => by
  obtain ⟨f, fd, ps, F, hm, hk, hb⟩ := G.ex
  refine RE.of (pe_call (E := E0) F hr hg hm hk hb .nil pass0 pa_star hdb he hpl) (ha B0 B σ H0 H _ j fun vs G0 G g r => ?_)
  rw [List.append_nil]
  exact ⟨G0, ds, d, g.sh, r, hR, fun v L0 L g2 r2 => kk v L0 L (g.trans g2) r2⟩
theorem ed_callB {x : Str} {id : String} {es : List Expr} {ds : List D} {p : Pos} (hg : Gl X x) (hm : X.mg x = none) (hv : bootBuiltins x = some (.builtin id)) (ha : AD X ρ (e :: es) ds) (h : BC X (.builtin id) ds d) (hn : x ≠ "__name__" := by decide) (hdb : (x == ("__debug__" : Str)) = false := by decide)
    (he : starEach (e :: es) X.env = (false, eval e X.env) :: starEach es X.env := by rfl) (hpl : (backTo pos (starEach es X.env)).any (·.1) = false := by rfl) : ED X ρ (.Call (.Name x p) (e :: es) [] pos) d := fun B0 B σ H0 H Q j kk => by
  obtain ⟨r, h1, h2⟩ := h
  exact RE.of (pe_callB h1 hg hm hv pa_star hn hdb he hpl) (ha B0 B σ H0 H _ j fun vs G0 G g r => h2 G0 G vs Q g.sh r fun v L0 L g2 r2 => kk v L0 L (g.trans g2) r2)
theorem ed_callT {x : Str} {T : String} {es : List Expr} {ds : List D} {p : Pos} (hg : Gl X x) (hm : X.mg x = none) (hv : bootBuiltins x = some (.type T)) (ha : AD X ρ (e :: es) ds) (h : BC X (.type T) ds d) (hn : x ≠ "__name__" := by decide) (hdb : (x == ("__debug__" : Str)) = false := by decide)
    (he : starEach (e :: es) X.env = (false, eval e X.env) :: starEach es X.env := by rfl) (hpl : (backTo pos (starEach es X.env)).any (·.1) = false := by rfl) : ED X ρ (.Call (.Name x p) (e :: es) [] pos) d := fun B0 B σ H0 H Q j kk => by
  obtain ⟨r, h1, h2⟩ := h
  exact RE.of (pe_callTy h1 hg hm hv pa_star hn hdb he hpl) (ha B0 B σ H0 H _ j fun vs G0 G g r => h2 G0 G vs Q g.sh r fun v L0 L g2 r2 => kk v L0 L (g.trans g2) r2)
theorem eo_callB {x : Str} {id : String} {es : List Expr} {ds : List D} {c : OC} {p : Pos} (hg : Gl X x) (hm : X.mg x = none) (hv : bootBuiltins x = some (.builtin id)) (ha : AD X ρ (e :: es) ds) (h : BO X (.builtin id) ds c) (hn : x ≠ "__name__" := by decide) (hdb : (x == ("__debug__" : Str)) = false := by decide)
    (he : starEach (e :: es) X.env = (false, eval e X.env) :: starEach es X.env := by rfl) (hpl : (backTo pos (starEach es X.env)).any (·.1) = false := by rfl) : EO X ρ (.Call (.Name x p) (e :: es) [] pos) c := fun B0 B σ H0 H Q j kk => by
  obtain ⟨r, h1, h2⟩ := h
  exact RE.of (pe_callB h1 hg hm hv pa_star hn hdb he hpl) (ha B0 B σ H0 H _ j fun vs G0 G g r => h2 G0 G vs Q g.sh r fun a o L0 L g2 h3 h4 h5 r2 => kk a o L0 L (g.trans g2) h3 h4 (g.sB.free h5) r2)
end
section
variable {X : Cx}
theorem o2_keep {K : PySem.W.Frag} {r : R2} {d e f : D} (v : V) (hv : ∀ H0 : Hp, DR K H0 f v) (h : ∀ H0 H x y (Q : VK), Same H0 H → DR K H0 d x → DR K H0 e y → Q v H → r x y H Q) : O2 K r d e f := fun H0 H x y Q s r1 r2 k =>
  h H0 H x y Q s r1 r2 (k v H0 H (JH.refl s) (hv H0))
theorem b2_add {i j : Int} : B2 X .Add (.int i) (.int j) (.int (i + j)) := ⟨_, op_add, o2_keep _ (fun _ => rfl) fun _ _ _ _ _ _ r1 r2 q => ⟨i, j, r1, r2, q⟩⟩
theorem b2_sub {i j : Int} : B2 X .Sub (.int i) (.int j) (.int (i - j)) := ⟨_, op_sub, o2_keep _ (fun _ => rfl) fun _ _ _ _ _ _ r1 r2 q => ⟨i, j, r1, r2, q⟩⟩
theorem b2_mul {i j : Int} (h : CMul i j) : B2 X .Mult (.int i) (.int j) (.int (i * j)) := ⟨_, op_mul, o2_keep _ (fun _ => rfl) fun _ _ _ _ _ _ r1 r2 q => ⟨i, j, r1, r2, h, q⟩⟩
theorem b2_fdiv {i j : Int} (h : CDiv i j) : B2 X .FloorDiv (.int i) (.int j) (.int (i / j)) := ⟨_, op_fdiv, o2_keep _ (fun _ => rfl) fun _ _ _ _ _ _ r1 r2 q => ⟨i, j, r1, r2, h, q⟩⟩
theorem b2_mod {i j : Int} (h : 0 < j) : B2 X .Mod (.int i) (.int j) (.int (i % j)) := ⟨_, op_mod, o2_keep _ (fun _ => rfl) fun _ _ _ _ _ _ r1 r2 q => ⟨i, j, r1, r2, h, q⟩⟩
theorem b2_pow {i j : Int} (h : CPow i j) : B2 X .Pow (.int i) (.int j) (.int (i ^ j.toNat)) := ⟨_, op_pow, o2_keep _ (fun _ => rfl) fun _ _ _ _ _ _ r1 r2 q => ⟨i, j, r1, r2, h, q⟩⟩
theorem b2_addS {i j : Str} (h : i.length + j.length ≤ sizeLine) : B2 X .Add (.str i) (.str j) (.str (i ++ j)) := ⟨_, op_add_str, o2_keep _ (fun _ => rfl) fun _ _ _ _ _ _ r1 r2 q => ⟨i, j, r1, r2, h, q⟩⟩
theorem c2_lt {i j : Int} : C2 X .Lt (.int i) (.int j) (.bl (decide (i < j))) := ⟨_, op_lt, o2_keep _ (fun _ => rfl) fun _ _ _ _ _ _ r1 r2 q => ⟨i, j, r1, r2, q⟩⟩
theorem c2_le {i j : Int} : C2 X .LtE (.int i) (.int j) (.bl (decide (i ≤ j))) := ⟨_, op_le, o2_keep _ (fun _ => rfl) fun _ _ _ _ _ _ r1 r2 q => ⟨i, j, r1, r2, q⟩⟩
theorem c2_gt {i j : Int} : C2 X .Gt (.int i) (.int j) (.bl (decide (j < i))) := ⟨_, op_gt, o2_keep _ (fun _ => rfl) fun _ _ _ _ _ _ r1 r2 q => ⟨i, j, r1, r2, q⟩⟩
theorem c2_ge {i j : Int} : C2 X .GtE (.int i) (.int j) (.bl (decide (j ≤ i))) := ⟨_, op_ge, o2_keep _ (fun _ => rfl) fun _ _ _ _ _ _ r1 r2 q => ⟨i, j, r1, r2, q⟩⟩
theorem c2_eqI {i j : Int} : C2 X .Eq (.int i) (.int j) (.bl (decide (i = j))) := ⟨_, op_eq, fun H0 H x y Q s r1 r2 k => by
  cases (show x = .int i from r1); cases (show y = .int j from r2)
  exact ⟨rfl, k _ H0 H (JH.refl s) (by simp [DR])⟩⟩
theorem c2_neI {i j : Int} : C2 X .NotEq (.int i) (.int j) (.bl (!decide (i = j))) := ⟨_, op_ne, fun H0 H x y Q s r1 r2 k => by
  cases (show x = .int i from r1); cases (show y = .int j from r2)
  exact ⟨rfl, k _ H0 H (JH.refl s) (by simp [DR])⟩⟩
theorem c2_eqS {i j : Str} : C2 X .Eq (.str i) (.str j) (.bl (decide (i = j))) := ⟨_, op_eq, fun H0 H x y Q s r1 r2 k => by
  cases (show x = .str i from r1); cases (show y = .str j from r2)
  exact ⟨rfl, k _ H0 H (JH.refl s) (by simp [DR])⟩⟩
theorem c2_neS {i j : Str} : C2 X .NotEq (.str i) (.str j) (.bl (!decide (i = j))) := ⟨_, op_ne, fun H0 H x y Q s r1 r2 k => by
  cases (show x = .str i from r1); cases (show y = .str j from r2)
  exact ⟨rfl, k _ H0 H (JH.refl s) (by simp [DR])⟩⟩
theorem c2_eqB {i j : Bool} : C2 X .Eq (.bl i) (.bl j) (.bl (decide (i = j))) := ⟨_, op_eq, fun H0 H x y Q s r1 r2 k => by
  cases (show x = .bl i from r1); cases (show y = .bl j from r2)
  exact ⟨rfl, k _ H0 H (JH.refl s) (by simp [DR])⟩⟩
theorem c2_neB {i j : Bool} : C2 X .NotEq (.bl i) (.bl j) (.bl (!decide (i = j))) := ⟨_, op_ne, fun H0 H x y Q s r1 r2 k => by
  cases (show x = .bl i from r1); cases (show y = .bl j from r2)
  exact ⟨rfl, k _ H0 H (JH.refl s) (by simp [DR])⟩⟩
theorem c2_isB {i j : Bool} : C2 X .Is (.bl i) (.bl j) (.bl (decide (i = j))) := ⟨_, op_isBl, o2_keep _ (fun _ => rfl) fun _ _ _ _ _ _ r1 r2 q => ⟨i, j, r1, r2, q⟩⟩
theorem c2_notB {i j : Bool} : C2 X .IsNot (.bl i) (.bl j) (.bl (!decide (i = j))) := ⟨_, op_notBl, o2_keep _ (fun _ => rfl) fun _ _ _ _ _ _ r1 r2 q => ⟨i, j, r1, r2, q⟩⟩
def isNon : D → Bool
  | .non => true
  | _ => false
theorem DR.non {K : PySem.W.Frag} {H : Hp} {d : D} {v : V} (h : DR K H d v) : decide (v = .non) = isNon d := by
  cases d with
  | non => cases (show v = .non from h); rfl
  | bl _ => cases (show v = .bl _ from h); rfl
  | int _ => cases (show v = .int _ from h); rfl
  | str _ => cases (show v = .str _ from h); rfl
  | ty _ => cases (show v = .ty _ from h); rfl
  | lst _ => obtain ⟨_, _, rfl, _⟩ := h; rfl
  | tup _ => obtain ⟨_, _, rfl, _⟩ := h; rfl
  | dk _ _ => obtain ⟨_, _, rfl, _⟩ := h; rfl
  | dt _ _ => obtain ⟨_, _, rfl, _⟩ := h; rfl
  | obj _ _ _ => obtain ⟨_, _, _, _, rfl, _⟩ := h; rfl
  | ad _ => cases (show v = .ref _ from h); rfl
  | ptp _ => obtain ⟨_, _, _, rfl, _⟩ := h; rfl
  | etp _ => obtain ⟨_, _, rfl, _⟩ := h; rfl
  | exc _ _ _ _ => obtain ⟨rfl, _⟩ := h; rfl
theorem c2_isN {d : D} : C2 X .Is d .non (.bl (isNon d)) := ⟨_, op_isN, fun H0 H x y Q s r1 r2 k => ⟨r2, k _ H0 H (JH.refl s) (by rw [r1.non]; rfl)⟩⟩
theorem c2_notN {d : D} : C2 X .IsNot d .non (.bl (!isNon d)) := ⟨_, op_notN, fun H0 H x y Q s r1 r2 k => ⟨r2, k _ H0 H (JH.refl s) (by rw [r1.non]; rfl)⟩⟩
mutual
def D.py : D → PyData
  | .non => .none
  | .bl b => .bool b
  | .int i => .int i
  | .str x => .str x
  | .lst ds => .list (D.pys ds)
  | .tup ds => .tuple (D.pys ds)
  | .dk _ _ => .none
  | .dt _ _ => .none
  | .obj _ _ _ => .none
  | .ad _ => .none
  | .ptp _ => .none
  | .etp _ => .none
  | .exc _ _ _ _ => .none
  | .ty _ => .none
def D.pys : List D → List PyData
  | [] => []
  | d :: ds => D.py d :: D.pys ds
end
mutual
def D.plain : D → Bool
  | .lst ds => D.plains ds
  | .tup ds => D.plains ds
  | .dk _ _ => false
  | .dt _ _ => false
  | .obj _ _ _ => false
  | .ad _ => false
  | .ptp _ => false
  | .etp _ => false
  | .exc _ _ _ _ => false
  | .ty _ => false
  | _ => true
def D.plains : List D → Bool
  | [] => true
  | d :: ds => D.plain d && D.plains ds
end
mutual
theorem DR.dp {K : PySem.W.Frag} {H : Hp} : ∀ (d : D) (v : V), d.plain = true → DR K H d v → Dp K H v d.py
  | .non, v, _, h => by cases (show v = .non from h); exact .non
  | .bl b, v, _, h => by cases (show v = .bl b from h); exact .bl b
  | .int b, v, _, h => by cases (show v = .int b from h); exact .int b
  | .str b, v, _, h => by cases (show v = .str b from h); exact .str b
  | .lst ds, v, p, h => by
    obtain ⟨a, vs, rfl, h2, h3⟩ := h
    exact .lst h2 (DRs.dp ds vs (by simpa [D.plain] using p) h3)
  | .tup ds, v, p, h => by
    obtain ⟨a, vs, rfl, h2, h3⟩ := h
    exact .tup h2 (DRs.dp ds vs (by simpa [D.plain] using p) h3)
  | .dk _ _, v, p, h => by simp [D.plain] at p
  | .dt _ _, v, p, h => by simp [D.plain] at p
  | .obj _ _ _, v, p, h => by simp [D.plain] at p
  | .ad _, v, p, h => by simp [D.plain] at p
  | .ptp _, v, p, h => by simp [D.plain] at p
  | .etp _, v, p, h => by simp [D.plain] at p
  | .exc _ _ _ _, v, p, h => by simp [D.plain] at p
  | .ty _, v, p, h => by simp [D.plain] at p
theorem DRs.dp {K : PySem.W.Frag} {H : Hp} : ∀ (ds : List D) (vs : List V), D.plains ds = true → DRs K H ds vs → DpAll K H vs (D.pys ds)
  | [], vs, _, h => by cases (show vs = [] from h); exact .nil
  | d :: ds, vs, p, h => by
    obtain ⟨v, r, rfl, h2, h3⟩ := h
    simp only [D.plains, Bool.and_eq_true] at p
    exact .cons (DR.dp d v p.1 h2) (DRs.dp ds r p.2 h3)
end
/-- data that == may be asked of -/
structure Cmp (d : D) : Prop where
  p : d.plain = true
  s : SeqAt.shaped d.py = true
theorem c2_eqD {d e : D} {k : Bool} (hu : X.A.units + 64 < cLine) (hd : Cmp d) (he : Cmp e) (h : PyData.eqv d.py e.py = k) : C2 X .Eq d e (.bl k) := ⟨_, op_eqD hu, fun H0 H x y Q s r1 r2 kk =>
  ⟨d.py, e.py, DR.dp _ _ hd.p (DR.mono s _ _ r1), DR.dp _ _ he.p (DR.mono s _ _ r2), hd.s, he.s, kk _ H0 H (JH.refl s) (by rw [h]; rfl)⟩⟩
theorem c2_neD {d e : D} {k : Bool} (hu : X.A.units + 64 < cLine) (hd : Cmp d) (he : Cmp e) (h : PyData.eqv d.py e.py = k) : C2 X .NotEq d e (.bl (!k)) := ⟨_, op_neD hu, fun H0 H x y Q s r1 r2 kk =>
  ⟨d.py, e.py, DR.dp _ _ hd.p (DR.mono s _ _ r1), DR.dp _ _ he.p (DR.mono s _ _ r2), hd.s, he.s, kk _ H0 H (JH.refl s) (by rw [h]; rfl)⟩⟩
theorem ix_t {ds : List D} {i : Int} {d : D} {ρ : En} {a b : Expr} {pos : Pos} (ha : ED X ρ a (.tup ds)) (hb : ED X ρ b (.int i)) (h : atI ds i = some d) (hs : PlainIx b := by exact fun _ _ => rfl) : ED X ρ (.Subscript a b pos) d := fun B0 B σ H0 H Q j kk => by
  refine RE.of (pe_ix ix_tup pe_star pe_star hs) (ha B0 B σ H0 H _ j fun x G0 G g1 r1 => hb B0 B σ G0 G _ (j.grow g1) fun y L0 L g2 r2 => ?_)
  obtain ⟨p, vs, rfl, h1, h2⟩ := DR.mono g2.s0 _ _ r1
  obtain ⟨k, e1, e2, _⟩ := atI_get h
  obtain ⟨v, h3, h4⟩ := DRs.get h2 e2
  have e4 : atI vs i = some v := by
    unfold atI at h ⊢
    rw [← DRs.length h2]
    cases q : ixN ds.length i with
    | none => rw [q] at h; cases h
    | some m =>
      rw [q] at h
      obtain ⟨v', h5, h6⟩ := DRs.get h2 (show ds[m]? = some d from h)
      show vs[m]? = some v
      have := (ixN_seq q).1
      rw [e1] at this
      cases this
      exact h3
  exact ⟨p, vs, i, v, rfl, r2, Same.seqT g2.sh h1, e4, kk v L0 L (g1.trans g2) h4⟩
theorem ix_l {ds : List D} {i : Int} {d : D} {ρ : En} {a b : Expr} {pos : Pos} (ha : ED X ρ a (.lst ds)) (hb : ED X ρ b (.int i)) (h : atI ds i = some d) (hs : PlainIx b := by exact fun _ _ => rfl) : ED X ρ (.Subscript a b pos) d := fun B0 B σ H0 H Q j kk => by
  refine RE.of (pe_ix ix_list pe_star pe_star hs) (ha B0 B σ H0 H _ j fun x G0 G g1 r1 => hb B0 B σ G0 G _ (j.grow g1) fun y L0 L g2 r2 => ?_)
  obtain ⟨p, vs, rfl, h1, h2⟩ := DR.mono g2.s0 _ _ r1
  obtain ⟨k, e1, e2, _⟩ := atI_get h
  obtain ⟨v, h3, h4⟩ := DRs.get h2 e2
  have e4 : atI vs i = some v := by
    unfold atI at h ⊢
    rw [← DRs.length h2]
    cases q : ixN ds.length i with
    | none => rw [q] at h; cases h
    | some m =>
      rw [q] at h
      show vs[m]? = some v
      have := (ixN_seq q).1
      rw [e1] at this
      cases this
      exact h3
  exact ⟨p, vs, i, v, rfl, r2, g2.sh.seq h1, e4, kk v L0 L (g1.trans g2) h4⟩
theorem bc_keep {f : Value} {ds : List D} {d : D} {r : List V → Hp → VK → Prop} (c : CallR X f r) (v : V) (hv : ∀ H0 : Hp, DR X.K H0 d v) (h : ∀ H0 H vs (Q : VK), Same H0 H → DRs X.K H0 ds vs → Q v H → r vs H Q) : BC X f ds d :=
  ⟨r, c, fun H0 H vs Q s r1 k => h H0 H vs Q s r1 (k v H0 H (JH.refl s) (hv H0))⟩
theorem DRs.two {K : PySem.W.Frag} {H : Hp} {d e : D} {vs : List V} (h : DRs K H [d, e] vs) : ∃ x y, vs = [x, y] ∧ DR K H d x ∧ DR K H e y := by
  obtain ⟨x, r, rfl, h1, h2⟩ := h
  obtain ⟨y, r, rfl, h3, h4⟩ := h2
  cases (show r = [] from h4)
  exact ⟨x, y, rfl, h1, h3⟩
theorem DRs.one' {K : PySem.W.Frag} {H : Hp} {d : D} {vs : List V} (h : DRs K H [d] vs) : ∃ x, vs = [x] ∧ DR K H d x := by
  obtain ⟨x, r, rfl, h1, h2⟩ := h
  cases (show r = [] from h2)
  exact ⟨x, rfl, h1⟩
theorem bc_int {i : Int} : BC X (.type "int") [.int i] (.int i) := bc_keep call_int1 _ (fun _ => rfl) fun _ _ vs _ _ r q => by
  obtain ⟨x, rfl, h⟩ := r.one'
  cases (show x = .int i from h)
  exact .inl ⟨i, rfl, q⟩
theorem bc_min2 {i j : Int} (hc : X.calm = true) : BC X (.builtin "min") [.int i, .int j] (.int (min i j)) := bc_keep (call_min2 hc) _ (fun _ => rfl) fun _ _ vs _ _ r q => by
  obtain ⟨x, y, rfl, h, h'⟩ := r.two
  cases (show x = .int i from h); cases (show y = .int j from h')
  have e : min i j = (if j < i then j else i) := by split <;> omega
  exact ⟨i, j, rfl, by rw [← e]; exact q⟩
theorem bc_max2 {i j : Int} (hc : X.calm = true) : BC X (.builtin "max") [.int i, .int j] (.int (max i j)) := bc_keep (call_max2 hc) _ (fun _ => rfl) fun _ _ vs _ _ r q => by
  obtain ⟨x, y, rfl, h, h'⟩ := r.two
  cases (show x = .int i from h); cases (show y = .int j from h')
  have e : max i j = (if j > i then j else i) := by split <;> omega
  exact ⟨i, j, rfl, by rw [← e]; exact q⟩
theorem bc_lenL {ds : List D} : BC X (.builtin "len") [.lst ds] (.int ds.length) := bc_keep call_len_seq _ (fun _ => rfl) fun _ _ vs _ s r q => by
  obtain ⟨x, rfl, a, ys, rfl, h1, h2⟩ := r.one'
  exact ⟨a, ys, rfl, .inl (s.seq h1), by rw [← DRs.length h2]; exact q⟩
theorem bc_lenT {ds : List D} : BC X (.builtin "len") [.tup ds] (.int ds.length) := bc_keep call_len_seq _ (fun _ => rfl) fun _ _ vs _ s r q => by
  obtain ⟨x, rfl, a, ys, rfl, h1, h2⟩ := r.one'
  exact ⟨a, ys, rfl, .inr (Same.seqT s h1), by rw [← DRs.length h2]; exact q⟩
theorem bc_lenS {z : Str} (h : z.length ≤ sizeLine) : BC X (.builtin "len") [.str z] (.int z.length) := bc_keep call_len_str _ (fun _ => rfl) fun _ _ vs _ s r q => by
  obtain ⟨x, rfl, h1⟩ := r.one'
  exact ⟨z, by rw [show x = .str z from h1], h, q⟩
theorem bc_tupL {ds : List D} : BC X (.type "tuple") [.lst ds] (.tup ds) := ⟨_, call_tuple_of, fun H0 H vs Q s r k => by
  obtain ⟨x, rfl, a, ys, rfl, h1, h2⟩ := r.one'
  exact ⟨a, ys, rfl, .inl ⟨s.seq h1, fun l hl => k _ (upd H0 l (.tup ys)) _ (JH.new s hl) ⟨l, ys, rfl, SqT.of upd_same, DRs.mono (JH.new s hl).s0 _ _ h2⟩⟩⟩⟩
theorem bc_tupT {ds : List D} : BC X (.type "tuple") [.tup ds] (.tup ds) := ⟨_, call_tuple_of, fun H0 H vs Q s r k => by
  obtain ⟨x, rfl, a, ys, rfl, h1, h2⟩ := r.one'
  exact ⟨a, ys, rfl, .inr ⟨Same.seqT s h1, k _ H0 H (JH.refl s) ⟨a, ys, rfl, h1, h2⟩⟩⟩⟩
theorem bo_listL {ds : List D} : BO X (.type "list") [.lst ds] (.lst ds) := ⟨_, call_list_of, fun H0 H vs Q s r k => by
  obtain ⟨x, rfl, a, ys, rfl, h1, h2⟩ := r.one'
  exact ⟨a, ys, rfl, .inl (s.seq h1), fun l hl => k l _ _ _ (JH.own s hl) upd_same (s.free hl) hl ⟨ys, rfl, h2⟩⟩⟩
theorem bo_listT {ds : List D} : BO X (.type "list") [.tup ds] (.lst ds) := ⟨_, call_list_of, fun H0 H vs Q s r k => by
  obtain ⟨x, rfl, a, ys, rfl, h1, h2⟩ := r.one'
  exact ⟨a, ys, rfl, .inr (Same.seqT s h1), fun l hl => k l _ _ _ (JH.own s hl) upd_same (s.free hl) hl ⟨ys, rfl, h2⟩⟩⟩
theorem bc_all {bs : List Bool} (hc : X.calm = true) : BC X (.builtin "all") [.lst (bs.map D.bl)] (.bl (bs.all id)) := bc_keep (cr_all hc) _ (fun _ => rfl) fun _ _ vs _ s r q => by
  obtain ⟨x, rfl, a, ys, rfl, h1, h2⟩ := r.one'
  rw [DRs.bls h2] at h1
  exact ⟨a, bs, rfl, s.seq h1, q⟩
end
end DL
namespace DL
open PySem PySem.Spec L2
def DG (X : Cx) (is : List Nat) (tg : Expr) (d : D) (ρ ρ' : En) : Prop := ∀ B0 B σ H0 H v (Q : St → Hp → Prop), J X.K B0 B σ H0 H ρ → DR X.K H0 d v → (∀ σ', J X.K B0 B σ' H0 H ρ' → (∀ k, k ∉ is → σ'[k]? = σ[k]?) → Q σ' H) → RG X tg v σ H Q
def DGs (X : Cx) (is : List Nat) (ts : List Expr) (ds : List D) (ρ ρ' : En) : Prop := ∀ B0 B σ H0 H vs (Q : St → Hp → Prop), J X.K B0 B σ H0 H ρ → DRs X.K H0 ds vs → (∀ σ', J X.K B0 B σ' H0 H ρ' → (∀ k, k ∉ is → σ'[k]? = σ[k]?) → Q σ' H) → RGs X ts vs σ H Q
section
variable {X : Cx} {ρ ρ' ρ2 : En} {e a b c : Expr} {d d1 d2 d3 : D} {pos : Pos}
theorem dg_name (i : Nat) {x : Str} (hN : X.N.Nodup) (hi : X.N[i]? = some x := by rfl) (hx : Loc X.env.scope x := by first | exact Or.inl rfl | exact Or.inr rfl) (hf : X.fn x = true ∨ X.env.scope.names.lookup x = some .local := by first | exact .inl rfl | exact .inr rfl) :
    DG X [i] (.Name x pos) d ρ (ρ.set i (.sh d)) := fun B0 B σ H0 H v Q j r k => by
  refine ⟨_, pg_name hN hi hx hf, k _ (j.setSh r) fun m hm => ?_⟩
  rw [List.getElem?_set_ne (fun e => hm (by simp [e]))]
theorem dgs_nil : DGs X [] [] [] ρ ρ := fun B0 B σ H0 H vs Q j r k => by
  cases (show vs = [] from r)
  exact ⟨_, pgs_nil, rfl, k σ j fun _ _ => rfl⟩
theorem dgs_cons {is is' : List Nat} {es : List Expr} {ds : List D} (h : DG X is e d ρ ρ') (r : DGs X is' es ds ρ' ρ2) (hs : (assignEach (e :: es) X.env).map (·.2) = assign e X.env :: (assignEach es X.env).map (·.2) := by rfl) :
    DGs X (is ++ is') (e :: es) (d :: ds) ρ ρ2 := fun B0 B σ H0 H vs Q j rr k => by
  obtain ⟨v, ws, rfl, r1, r2⟩ := rr
  refine ⟨_, pgs_cons pg_star pgs_star hs, v, ws, rfl, h B0 B σ H0 H v _ j r1 fun σ1 j1 k1 => r B0 B σ1 H0 H ws _ j1 r2 fun σ2 j2 k2 => k σ2 j2 fun m hm => ?_⟩
  rw [k2 m (fun z => hm (by simp [z])), k1 m (fun z => hm (by simp [z]))]
theorem dg_tup {is : List Nat} {es : List Expr} {ds : List D} {k1 : Nat} {n : Nat} (hc : X.calm = true) (h : DGs X is es ds ρ ρ') (hl : ds.length = n := by rfl) (hn : (assignEach es X.env).length = n := by rfl) (hst : (assignEach es X.env).findIdx? (·.1) = none := by rfl) :
    DG X is (.Tuple es k1 pos) (.tup ds) ρ ρ' := fun B0 B σ H0 H v Q j r k => by
  obtain ⟨p, vs, rfl, h1, h2⟩ := r
  exact ⟨_, pg_tup hc pgs_star hn hst, p, vs, rfl, Same.seqT j.same h1, by rw [← DRs.length h2]; exact hl, h B0 B σ H0 H vs Q j h2 k⟩
def DWalk (K : PySem.W.Frag) (Jt : It) (H0 : Hp) (ds : List D) : Prop := ∃ G Y, Walk Jt ds.length G Y ∧ (∀ H1 H, Same H0 H1 → Same H1 H → G H) ∧
  ∀ i H1 H x H' d, ds[i]? = some d → Same H0 H1 → Same H1 H → Y i H x H' → ∃ H1', JH H1 H H1' H' ∧ DR K H1' d x
def ID (X : Cx) (ρ : En) (tg iter : Expr) (ds : List D) : Prop := ∀ B0 B σ H0 H R, J X.K B0 B σ H0 H ρ → (∀ Jt H0' H', JH H0 H H0' H' → DWalk X.K Jt H0' ds → R Jt H') → RI X tg iter σ H R
theorem dw_list {K : PySem.W.Frag} {H0 : Hp} {p : Addr} {vs : List V} {ds : List D} (h : SqL K H0 p vs) (r : DRs K H0 ds vs) : DWalk K (Itl K p) H0 ds := by
  refine ⟨_, _, (by rw [DRs.length r]; exact walk_list (xs := vs)), fun H1 H s1 s2 => (s1.trans s2).seq h, fun i H1 H x H' d hd s1 s2 y => ?_⟩
  obtain ⟨rfl, hx⟩ := y
  obtain ⟨v, h1, h2⟩ := DRs.get r hd
  rw [hx] at h1; cases h1
  exact ⟨H1, JH.refl s2, DR.mono s1 _ _ h2⟩
theorem dw_tup {K : PySem.W.Frag} {H0 : Hp} {p : Addr} {vs : List V} {ds : List D} (h : SqT K H0 p vs) (r : DRs K H0 ds vs) : DWalk K (Itt K p) H0 ds := by
  refine ⟨_, _, (by rw [DRs.length r]; exact walk_tup (xs := vs)), fun H1 H s1 s2 => Same.seqT (s1.trans s2) h, fun i H1 H x H' d hd s1 s2 y => ?_⟩
  obtain ⟨rfl, hx⟩ := y
  obtain ⟨v, h1, h2⟩ := DRs.get r hd
  rw [hx] at h1; cases h1
  exact ⟨H1, JH.refl s2, DR.mono s1 _ _ h2⟩
/-- lo, lo + 1, .. -/
def rngD (lo : Int) (n : Nat) : List D := (List.range n).map fun (i : Nat) => D.int (lo + (i : Int))
theorem rngD_len (lo : Int) (n : Nat) : (rngD lo n).length = n := by simp [rngD]
theorem rngD_get {lo : Int} {n i : Nat} {d : D} (h : (rngD lo n)[i]? = some d) : i < n ∧ d = .int (lo + i) := by
  have hi : i < n := by have := (List.getElem?_eq_some_iff.mp h).1; rwa [rngD_len] at this
  refine ⟨hi, ?_⟩
  simp [rngD, List.getElem?_map, List.getElem?_range hi] at h
  exact h.symm
theorem dw_range {K : PySem.W.Frag} {H0 : Hp} {lo : Int} {n : Nat} : DWalk K (Itr lo n) H0 (rngD lo n) := by
  refine ⟨_, _, (by rw [rngD_len]; exact walk_range), fun _ _ _ _ => trivial, fun i H1 H x H' d hd s1 s2 y => ?_⟩
  obtain ⟨rfl, rfl⟩ := y
  obtain ⟨_, rfl⟩ := rngD_get hd
  exact ⟨H1, JH.refl s2, rfl⟩
theorem dw_pair {K : PySem.W.Frag} {Jt : It} {H0 : Hp} {n : Nat} {G : Hp → Prop} {xs ys : Nat → Option V} {ds : List D} {f g : Nat → Option D} (w : Walk Jt n G (YPair xs ys)) (hn : n = ds.length) (hG : ∀ H1 H, Same H0 H1 → Same H1 H → G H)
    (hd : ∀ i d, ds[i]? = some d → ∃ d1 d2, d = .tup [d1, d2] ∧ (∀ v, xs i = some v → DR K H0 d1 v) ∧ ∀ v, ys i = some v → DR K H0 d2 v) : DWalk K Jt H0 ds := by
  subst hn
  refine ⟨_, _, w, hG, fun i H1 H x H' d h s1 s2 y => ?_⟩
  obtain ⟨T, v1, v2, rfl, hT, rfl, hx, hy⟩ := y
  obtain ⟨d1, d2, rfl, q1, q2⟩ := hd i d h
  have g := JH.new (o := .tup [v1, v2]) s2 hT
  exact ⟨_, g, T, [v1, v2], rfl, SqT.of upd_same, v1, [v2], rfl, DR.mono (s1.trans g.s0) _ _ (q1 v1 hx), v2, [], rfl, DR.mono (s1.trans g.s0) _ _ (q2 v2 hy), rfl⟩
theorem id_list {ds : List D} {tg : Expr} (h : ED X ρ e (.lst ds)) : ID X ρ tg e ds := fun B0 B σ H0 H R j k =>
  ⟨_, pi_list pe_star, h B0 B σ H0 H _ j fun v G0 G g r => by
    obtain ⟨p, vs, rfl, h1, h2⟩ := r
    exact ⟨p, rfl, ⟨vs, g.sh.seq h1⟩, k _ G0 G g (dw_list h1 h2)⟩⟩
theorem id_tup {ds : List D} {tg : Expr} (h : ED X ρ e (.tup ds)) : ID X ρ tg e ds := fun B0 B σ H0 H R j k =>
  ⟨_, pi_tup pe_star, h B0 B σ H0 H _ j fun v G0 G g r => by
    obtain ⟨p, vs, rfl, h1, h2⟩ := r
    exact ⟨p, rfl, ⟨vs, Same.seqT g.sh h1⟩, k _ G0 G g (dw_tup h1 h2)⟩⟩
theorem id_range1 {tg : Expr} {p : Pos} {i : Int} (hg : Gl X "range") (hm : X.mg "range" = none) (ha : ED X ρ a (.int i)) (hb : -(2 ^ 62) ≤ i ∧ i < 2 ^ 62) (hs : starEach [a] X.env = [(false, eval a X.env)] := by rfl) (hs2 : starEach [a] X.env = (false, eval a X.env) :: starEach [] X.env := by rfl) :
    ID X ρ tg (.Call (.Name "range" p) [a] [] pos) (rngD 0 i.toNat) := fun B0 B σ H0 H R j k =>
  ⟨_, pi_range1 hg hm pa_star hs, ad_cons (X := X) ha ad_nil hs2 B0 B σ H0 H _ j fun vs G0 G g r => by
    obtain ⟨x, rfl, h⟩ := r.one'
    cases (show x = .int i from h)
    exact ⟨i, rfl, hb.1, hb.2, k _ G0 G g dw_range⟩⟩
def wipeE (ρ : En) : List Nat → En
  | [] => ρ
  | v :: vs => (wipeE ρ vs).set v .no
theorem J.setNo {K : PySem.W.Frag} {B0 B H0 H : Hp} {σ : St} {ρ : En} (j : J K B0 B σ H0 H ρ) (i : Nat) : J K B0 B (σ.set i none) H0 H (ρ.set i .no) := j.setTo (s := .no) True.intro fun a w => w.elim
theorem J.wipe {K : PySem.W.Frag} {B0 B H0 H : Hp} {σ : St} {ρ : En} (j : J K B0 B σ H0 H ρ) : ∀ vs : List Nat, J K B0 B (wipe σ vs) H0 H (wipeE ρ vs)
  | [] => j
  | v :: vs => (J.wipe j vs).setNo v
theorem wipe_at {σ : St} {i : Nat} : ∀ {vs : List Nat}, i ∈ vs → i < σ.length → (wipe σ vs)[i]? = some none
  | v :: vs, h, hl => by
    unfold wipe
    by_cases e : v = i
    · subst e
      rw [List.getElem?_set_self (by rw [wipe_length]; exact hl)]
    · rw [List.getElem?_set_ne e]
      exact wipe_at (by simpa [Ne.symm e] using h) hl
theorem wipe_back {σ σ2 : St} {vs : List Nat} (hl : σ2.length = σ.length) (h : ∀ k, k ∉ vs → σ2[k]? = (wipe σ vs)[k]?) : wipe σ2 vs = wipe σ vs := by
  refine List.ext_getElem? fun k => ?_
  by_cases hk : k ∈ vs
  · by_cases hb : k < σ.length
    · rw [wipe_at hk (by omega), wipe_at hk hb]
    · rw [List.getElem?_eq_none (by rw [wipe_length]; omega), List.getElem?_eq_none (by rw [wipe_length]; omega)]
  · rw [wipe_out hk, h k hk]
def RTs (X : Cx) (ifs : List Expr) : TT := fun σ H Q => ∃ t, PTs X ifs t ∧ t σ H Q
def TDs (X : Cx) (ρ : En) (ifs : List Expr) (b : Bool) : Prop := ∀ B0 B σ H0 H (Q : Bool → Hp → Prop), J X.K B0 B σ H0 H ρ → (∀ H0' H', JH H0 H H0' H' → Q b H') → RTs X ifs σ H Q
theorem tds_nil : TDs X ρ [] true := fun B0 B σ H0 H Q j k => ⟨_, pts_nil, k H0 H (JH.refl j.same)⟩
theorem filterMap_take {α β : Type} (g : α → Option β) (ds : List α) (i : Nat) (d : α) (h : ds[i]? = some d) : (ds.take (i + 1)).filterMap g = (ds.take i).filterMap g ++ (g d).toList := by
  rw [List.take_add_one, h, List.filterMap_append]
  cases q : g d <;> simp [List.filterMap_cons, q]
theorem filterMap_len {α β : Type} (g : α → Option β) (ds : List α) (i : Nat) : ((ds.take i).filterMap g).length ≤ i := by
  refine Nat.le_trans (List.length_filterMap_le _ _) ?_
  simp; omega
section
variable {elt tg iter : Expr} {ifs : List Expr} {scope : Scope} {own : List (Str × Nat)} {ds : List D}
/-- one turn of a comprehension, in every block that may be -/
def Turn1 (X : Cx) (ρ : En) (scope : Scope) (vs : List Nat) (tg elt : Expr) (ifs : List Expr) (d : D) (y : Option D) : Prop :=
  ∃ ρ' : En, ρ'.length = ρ.length ∧ ∀ (s : Shared) (H : Hp) (C : Addr) (cl : List (Str × Addr)) (fp : List Addr), DG (X.blk s H scope (compEnvC scope cl C X.env) fp) vs tg d (wipeE ρ vs) ρ' ∧
    (match y with
    | some z => TDs (X.blk s H scope (compEnvC scope cl C X.env) fp) ρ' ifs true ∧ ED (X.blk s H scope (compEnvC scope cl C X.env) fp) ρ' elt z
    | none => TDs (X.blk s H scope (compEnvC scope cl C X.env) fp) ρ' ifs false)
def GB (X : Cx) (scope : Scope) (tg : Expr) : TG := fun v σ H Q => ∀ (s : Shared) (H' : Hp) (C : Addr) (cl : List (Str × Addr)) (fp : List Addr), RG (X.blk s H' scope (compEnvC scope cl C X.env) fp) tg v σ H Q
def TB (X : Cx) (scope : Scope) (ifs : List Expr) : TT := fun σ H Q => ∀ (s : Shared) (H' : Hp) (C : Addr) (cl : List (Str × Addr)) (fp : List Addr), RTs (X.blk s H' scope (compEnvC scope cl C X.env) fp) ifs σ H Q
def EB (X : Cx) (scope : Scope) (elt : Expr) : TE := fun σ H Q => ∀ (s : Shared) (H' : Hp) (C : Addr) (cl : List (Str × Addr)) (fp : List Addr), RE (X.blk s H' scope (compEnvC scope cl C X.env) fp) elt σ H Q
def TLc (X : Cx) (scope : Scope) (own : List (Str × Nat)) (tg elt iter : Expr) (ifs : List Expr) : TE := tLc (RI X tg iter) (GB X scope tg) (TB X scope ifs) (EB X scope elt) (own.map (·.2))
theorem wipeE_length (ρ : En) : ∀ vs : List Nat, (wipeE ρ vs).length = ρ.length
  | [] => rfl
  | v :: vs => by unfold wipeE; rw [List.length_set, wipeE_length ρ vs]
theorem lc_read (hi : ID X ρ tg iter ds) (ys : List (Option D)) (hlen : ys.length = ds.length) (turn : ∀ (i : Nat) d y, ds[i]? = some d → ys[i]? = some y → Turn1 X ρ scope (own.map (·.2)) tg elt ifs d y) (hl : ds.length ≤ sizeLine) {B0 B : Hp} {σ : St} {H0 H : Hp} {Q : VK} (j : J X.K B0 B σ H0 H ρ)
    (k : ∀ a o H0' H', JH H0 H H0' H' → H' a = some o → H0' a = none → H a = none → OCR X.K H0' (.lst (ys.filterMap id)) o → Q (.ref a) H') : TLc X scope own tg elt iter ifs σ H Q := by
  refine hi B0 B σ H0 H _ j fun Jt G0 G g0 ⟨GG, Y, w, hG, hY⟩ => fun Dn hD => ?_
  have j0 := j.grow g0
  refine lc_it (g := GB X scope tg) (tt := TB X scope ifs) (te := EB X scope elt) (vs := own.map (·.2)) (Qd := fun H => Q (.ref Dn) H) w (fun i H1 => ∃ L0 acc, JH G0 G L0 H1 ∧ H1 Dn = some (.lst acc) ∧ L0 Dn = none ∧ DRs X.K L0 ((ys.take i).filterMap id) acc) ⟨G0, [], JH.own g0.sh hD, upd_same, g0.sh.free hD, rfl⟩ (fun i H1 _ ⟨L0, acc, g1, _⟩ => hG L0 H1 g1.s0 g1.sh) ?_ ?_
  · rintro i x H1 H1' hi ⟨L0, acc, g1, hDn, hD0, racc⟩ hy
    obtain ⟨d, hd⟩ : ∃ d, ds[i]? = some d := ⟨ds[i], by simp [hi]⟩
    obtain ⟨L1, g2, rx⟩ := hY i L0 H1 x H1' d hd g1.s0 g1.sh hy
    obtain ⟨yo, hyo⟩ : ∃ y, ys[i]? = some y := ⟨ys[i]'(by omega), by simp [show i < ys.length by omega]⟩
    obtain ⟨ρ', hlen', turn⟩ := turn i d yo hd hyo
    have j1 := ((j0.grow g1).grow g2).wipe (own.map (·.2))
    have hacc : acc.length < sizeLine := by
      have h1 := DRs.length racc
      have h2 := filterMap_len id ys i
      omega
    intro s Hs C cl fp
    refine (turn s Hs C cl fp).1 B0 B _ L1 H1' x _ j1 rx fun σ2 j2 off => ⟨wipe_back (by rw [j2.len, hlen', ← wipeE_length ρ (own.map (·.2)), ← j1.len, wipe_length]) off, ?_⟩
    have gg := g1.trans g2
    have hDn' : H1' Dn = some (.lst acc) := g2.sB _ _ hDn
    have hD0' : L1 Dn = none := g2.fr _ _ hDn trivial hD0
    have eT := filterMap_take id ys i yo hyo
    cases yo with
    | none =>
      intro s Hs C cl fp
      have t2 := (turn s Hs C cl fp).2
      refine t2 B0 B σ2 L1 H1' _ j2 fun M0 M g3 => iteF ⟨M0, acc, gg.trans g3, g3.sB _ _ hDn', g3.fr _ _ hDn' trivial hD0', ?_⟩
      rw [eT]
      simpa using DRs.mono (g2.trans g3).s0 _ _ racc
    | some z =>
      intro s Hs C cl fp
      have t2 := (turn s Hs C cl fp).2
      refine t2.1 B0 B σ2 L1 H1' _ j2 fun M0 M g3 => iteT fun s Hs C cl fp => ?_
      have t3 := (turn s Hs C cl fp).2
      refine t3.2 B0 B σ2 M0 M _ (j2.grow g3) fun y N0 N g4 ry => ?_
      have g34 := g3.trans g4
      have h4 : N Dn = some (.lst acc) := g34.sB _ _ hDn'
      have h40 : N0 Dn = none := g34.fr _ _ hDn' trivial hD0'
      have gl := gg.trans g34
      refine ⟨acc, h4, hacc, N0, acc ++ [y], ⟨gl.s0, fun b u e => upd_keep (gl.sh b u e) (ne_of_none e h40), fun b u e => upd_keep (gl.sB b u e) (ne_of_none e hD), gl.fr⟩, upd_same, h40, ?_⟩
      rw [eT]
      exact DRs.app (DRs.mono (g2.trans g34).s0 _ _ racc) (DRs.one ry)
  · rintro H1 ⟨L0, acc, g1, hDn, hD0, racc⟩
    rw [List.take_of_length_le (Nat.le_of_eq hlen)] at racc
    exact k Dn _ L0 H1 (g0.trans g1) hDn hD0 (g0.sB.free hD) ⟨acc, rfl, racc⟩
variable {cpos : Pos}
theorem eo_lc (own : List (Str × Nat)) (hc : X.calm = true) (hN : X.N.Nodup) (ok : BlkOk X.N X.env.scope scope own) (hi : ID X ρ tg iter ds) (ys : List (Option D)) (hlen : ys.length = ds.length) (turn : ∀ (i : Nat) d y, ds[i]? = some d → ys[i]? = some y → Turn1 X ρ scope (own.map (·.2)) tg elt ifs d y) (hl : ds.length ≤ sizeLine)
    (hs : ∀ x, foldedSetIterable iter X.env x = pure x := by intro _; rfl) : EO X ρ (.ListComp elt [⟨tg, iter, ifs, 0⟩] scope cpos) (.lst (ys.filterMap id)) := fun B0 B σ H0 H Q j k =>
  RE.of (pe_lc hc hN pi_star ok (g := GB X scope tg) (tt := TB X scope ifs) (te := EB X scope elt)
    (fun s H C cl fp => ⟨fun pins s1 σ1 H1 v u Q1 I r h => (pg_star (tg := tg)).run pins s1 σ1 H1 v u Q1 I r (h s H C cl fp)⟩)
    (fun s H C cl fp => ⟨fun pins s1 σ1 H1 Q1 I h => by obtain ⟨t, h1, h2⟩ := h s H C cl fp; exact h1.run pins s1 σ1 H1 Q1 I h2⟩)
    (fun s H C cl fp => ⟨fun pins s1 σ1 H1 Q1 I h => (pe_star (e := elt)).run pins s1 σ1 H1 Q1 I (h s H C cl fp)⟩) hs) (lc_read hi ys hlen turn hl j k)
end
inductive Out where
  | nx (ρ : En) | bk (ρ : En) | ct (ρ : En) | rt (d : D)
  /-- .. with what was its own -/
  | ro (c : OC)
  /-- .. with what it was lent -/
  | rc (d : D) (cs : List (Addr × OC))
def Post (K : PySem.W.Frag) (B0 B : Hp) (Dn : Ends) : Out → Prop
  | .nx ρ => ∀ σ H0 H, J K B0 B σ H0 H ρ → Dn.nx σ H
  | .bk ρ => ∀ σ H0 H, J K B0 B σ H0 H ρ → Dn.bk σ H
  | .ct ρ => ∀ σ H0 H, J K B0 B σ H0 H ρ → Dn.ct σ H
  | .rt d => ∀ v H0 H, JH B0 B H0 H → DR K H0 d v → Dn.rt v H
  | .ro c => ∀ a o H0 H, JH B0 B H0 H → H a = some o → H0 a = none → B a = none → OCR K H0 c o → Dn.rt (.ref a) H
  | .rc d cs => ∀ v H0 H, JH B0 B H0 H → (∀ p ∈ cs, CellR K B H0 H p.1 p.2) → (cs.map (·.1)).Nodup → DR K H0 d v → Dn.rt v H
def WS (X : Cx) (st : Stmt) (ρ : En) (Φ : Out → Prop) : Prop := ∀ B0 B σ H0 H Dn, J X.K B0 B σ H0 H ρ → (∀ o, Φ o → Post X.K B0 B Dn o) → RS X st Dn σ H
def WSs (X : Cx) (sts : List Stmt) (ρ : En) (Φ : Out → Prop) : Prop := ∀ B0 B σ H0 H Dn, J X.K B0 B σ H0 H ρ → (∀ o, Φ o → Post X.K B0 B Dn o) → RSs X sts Dn σ H
/-- what is wanted of a statement that others follow -/
def Then (X : Cx) (rest : List Stmt) (Φ : Out → Prop) : Out → Prop
  | .nx ρ => WSs X rest ρ Φ
  | o => Φ o
variable {st : Stmt} {rest : List Stmt} {Φ : Out → Prop}
theorem ws_nil (h : Φ (.nx ρ)) : WSs X [] ρ Φ := fun B0 B σ H0 H Dn j k => ⟨_, pss_nil, k _ h σ H0 H j⟩
theorem ws_cons (h : WS X st ρ (Then X rest Φ)) : WSs X (st :: rest) ρ Φ := fun B0 B σ H0 H Dn j k => by
  refine ⟨_, pss_cons ps_star pss_star, h B0 B σ H0 H _ j fun o ho => ?_⟩
  cases o with
  | nx ρ' => exact fun σ' H0' H' j' => ho B0 B σ' H0' H' Dn j' k
  | bk ρ' => exact k _ ho
  | ct ρ' => exact k _ ho
  | rt d => exact k _ ho
  | ro c => exact k _ ho
  | rc d cs => exact k _ ho
theorem ws_mono {Ψ : Out → Prop} (h : WSs X rest ρ Ψ) (k : ∀ o, Ψ o → Φ o) : WSs X rest ρ Φ := fun B0 B σ H0 H Dn j kk => h B0 B σ H0 H Dn j fun o ho => kk o (k o ho)
/-- what a slot owns is given to all -/
theorem ws_share (i : Nat) {c : OC} (hi : ρ[i]? = some (.ow c)) (h : WSs X rest (ρ.set i (.sh c.d)) Φ) : WSs X rest ρ Φ := fun B0 B σ H0 H Dn j k => by
  obtain ⟨H0', j', _⟩ := j.share hi
  exact h B0 B σ H0' H Dn j' k
theorem ws_ret (h : ED X ρ e d) (hΦ : Φ (.rt d)) : WS X (.Return (some e) pos) ρ Φ := fun B0 B σ H0 H Dn j k =>
  ⟨_, ps_ret pe_star, h B0 B σ H0 H _ j fun v H0' H' g r => k _ hΦ v H0' H' (j.hp.trans g) r⟩
theorem ws_if {k : Bool} {sa sb : List Stmt} (hc : TD X ρ c k) (h1 : k = true → WSs X sa ρ Φ) (h2 : k = false → WSs X sb ρ Φ) : WS X (.If c sa sb pos) ρ Φ := fun B0 B σ H0 H Dn j kk => by
  refine ⟨_, ps_if pt_star pss_star pss_star, hc B0 B σ H0 H _ j fun H0' H' g => ?_⟩
  cases k with
  | true => exact iteT (h1 rfl B0 B σ H0' H' Dn (j.grow g) kk)
  | false => exact iteF (h2 rfl B0 B σ H0' H' Dn (j.grow g) kk)
theorem ws_set (i : Nat) {x : Str} {pos' : Pos} (hN : X.N.Nodup) (he : ED X ρ e d) (hΦ : Φ (.nx (ρ.set i (.sh d)))) (hi : X.N[i]? = some x := by rfl) (hx : Loc X.env.scope x := by first | exact Or.inl rfl | exact Or.inr rfl)
    (hs : swapsWith e (some (.Name x pos')) pos.line X.env = pure false := by rfl) (hf : X.fn x = true ∨ X.env.scope.names.lookup x = some .local := by first | exact .inl rfl | exact .inr rfl) : WS X (.Assign [.Name x pos'] e pos) ρ Φ := fun B0 B σ H0 H Dn j k =>
  ⟨_, ps_set hN hi hx pe_star hs hf, he B0 B σ H0 H _ j fun v H0' H' g r => k _ hΦ _ H0' H' ((j.grow g).setSh r)⟩
theorem J.setNew {K : PySem.W.Frag} {B0 B H0 H H0' H' : Hp} {σ : St} {ρ : En} (j : J K B0 B σ H0 H ρ) (g : JH H0 H H0' H') {i : Nat} {c : OC} {a : Addr} {o : HO} (h : H' a = some o) (h0 : H0' a = none) (n : H a = none) (r : OCR K H0' c o) :
    J K B0 B (σ.set i (some (.ref a))) H0' H' (ρ.set i (.ow c)) :=
  (j.grow g).setOwn h h0 (j.hp.sB.free n) (fun m s ov _ hm hs w => by
    obtain ⟨o', h1, _⟩ := j.own hm hs w
    rw [n] at h1; cases h1) r
theorem ws_setO (i : Nat) {x : Str} {c : OC} {pos' : Pos} (hN : X.N.Nodup) (he : EO X ρ e c) (hΦ : Φ (.nx (ρ.set i (.ow c)))) (hi : X.N[i]? = some x := by rfl) (hx : Loc X.env.scope x := by first | exact Or.inl rfl | exact Or.inr rfl)
    (hs : swapsWith e (some (.Name x pos')) pos.line X.env = pure false := by rfl) (hf : X.fn x = true ∨ X.env.scope.names.lookup x = some .local := by first | exact .inl rfl | exact .inr rfl) : WS X (.Assign [.Name x pos'] e pos) ρ Φ := fun B0 B σ H0 H Dn j k =>
  ⟨_, ps_set hN hi hx pe_star hs hf, he B0 B σ H0 H _ j fun a o H0' H' g h1 h2 h3 r => k _ hΦ _ H0' H' (j.setNew g h1 h2 h3 r)⟩
section
variable {elt tg iter : Expr} {ifs : List Expr} {scope : Scope} {ds : List D} {cpos : Pos}
/-- y = [.. for ..], y a local of the def's own on the same line -/
theorem ws_setLc (i : Nat) (own : List (Str × Nat)) {y : Str} {py : Pos} (hc : X.calm = true) (hN : X.N.Nodup) (ok : BlkOk X.N X.env.scope scope own) (hi : ID X ρ tg iter ds) (ys : List (Option D)) (hlen : ys.length = ds.length) (turn : ∀ (i : Nat) d y, ds[i]? = some d → ys[i]? = some y → Turn1 X ρ scope (own.map (·.2)) tg elt ifs d y) (hl : ds.length ≤ sizeLine)
    (hΦ : Φ (.nx (ρ.set i (.ow (.lst (ys.filterMap id)))))) (hy : X.N[i]? = some y := by rfl) (hyl : X.env.scope.names.lookup y = some .local := by rfl)
    (hsw : swapsWith (.ListComp elt [⟨tg, iter, ifs, 0⟩] scope cpos) (some (.Name y py)) pos.line X.env = pure true := by exact sw_true rfl rfl rfl (by decide +kernel)) (hs : ∀ x, foldedSetIterable iter X.env x = pure x := by intro _; rfl) :
    WS X (.Assign [.Name y py] (.ListComp elt [⟨tg, iter, ifs, 0⟩] scope cpos) pos) ρ Φ := fun B0 B σ H0 H Dn j k =>
  ⟨_, ps_setLc hc hN hy hyl hsw pi_star ok (g := GB X scope tg) (tt := TB X scope ifs) (te := EB X scope elt)
    (fun s H C cl fp => ⟨fun pins s1 σ1 H1 v u Q1 I r h => (pg_star (tg := tg)).run pins s1 σ1 H1 v u Q1 I r (h s H C cl fp)⟩)
    (fun s H C cl fp => ⟨fun pins s1 σ1 H1 Q1 I h => by obtain ⟨t, h1, h2⟩ := h s H C cl fp; exact h1.run pins s1 σ1 H1 Q1 I h2⟩)
    (fun s H C cl fp => ⟨fun pins s1 σ1 H1 Q1 I h => (pe_star (e := elt)).run pins s1 σ1 H1 Q1 I (h s H C cl fp)⟩) hs,
   lc_read hi ys hlen turn hl j fun a o H0' H' gg h1 h2 h3 r => k _ hΦ _ H0' H' (j.setNew gg h1 h2 h3 r)⟩
end
/-- a, b, .. = e -/
theorem ws_unpack {tg : Expr} {is : List Nat} (he : ED X ρ e d) (hg : DG X is tg d ρ ρ') (hΦ : Φ (.nx ρ')) (hs : swapsWithSole [tg] e pos.line X.env = pure false := by rfl) (hw : swappedStores [tg] e X.env = pure none := by rfl)
    (h1 : (assignEach [tg] X.env).map (·.2) = [assign tg X.env] := by rfl) : WS X (.Assign [tg] e pos) ρ Φ := fun B0 B σ H0 H Dn j k =>
  ⟨_, ps_asg pe_star pg_star hs hw h1, he B0 B σ H0 H _ j fun v H0' H' g r => hg B0 B σ H0' H' v _ (j.grow g) r fun σ' j' _ => k _ hΦ σ' H0' H' j'⟩
/-- xs.append(e), xs a list of the def's own -/
theorem ws_append (i : Nat) {x : Str} {p1 p2 p3 : Pos} {ds : List D} (hi : ρ[i]? = some (.ow (.lst ds))) (he : ED X ρ e d) (hl : ds.length < sizeLine) (hΦ : Φ (.nx (ρ.set i (.ow (.lst (ds ++ [d]))))))
    (hpe : ∀ {ta : TA}, PA X [e] ta → PS X (.Expr (.Call (.Attribute (.Name x p1) "append" p2) [e] [] p3) pos) (tDrop (tBM X.K "list" rAppend (tVar i) ta))) (hs : starEach [e] X.env = (false, eval e X.env) :: starEach [] X.env := by rfl) :
    WS X (.Expr (.Call (.Attribute (.Name x p1) "append" p2) [e] [] p3) pos) ρ Φ := fun B0 B σ H0 H Dn j k => by
  obtain ⟨ov, e1, a, o, rfl, h1, h2, h3, vs, rfl, r⟩ := j.get hi
  refine ⟨_, hpe pa_star, .ref a, e1, Or.inl ⟨rfl, _, Or.inl (Or.inl h1)⟩, ad_cons (X := X) he ad_nil hs B0 B σ H0 H _ j fun ws G0 G g rr => ?_⟩
  obtain ⟨y, rfl, ry⟩ := rr.one'
  have j1 := j.grow g
  obtain ⟨ov', e1', a', o', e2, h1', _, _, vs', rfl, r'⟩ := j1.get hi
  rw [e1] at e1'; cases e1'; cases e2
  refine ⟨a, vs', y, rfl, rfl, h1', by rw [← DRs.length r']; exact hl, ?_⟩
  exact k _ hΦ _ G0 _ (j1.write hi e1 ⟨_, rfl, DRs.app r' (DRs.one ry)⟩)
/-- for: I by the turn and the slots -/
theorem ws_for {tg iter : Expr} {body : List Stmt} {ds : List D} (hc : X.calm = true) (hi : ID X ρ tg iter ds) (I : Nat → En → Prop) (h0 : I 0 ρ)
    (hs : ∀ i d ρ', ds[i]? = some d → I i ρ' → ∃ is ρ'', DG X is tg d ρ' ρ'' ∧ WSs X body ρ'' (fun o => match o with | .nx r => I (i + 1) r | .ct r => I (i + 1) r | .bk r => Φ (.nx r) | .rt v => Φ (.rt v) | .ro c => Φ (.ro c) | .rc v cs => Φ (.rc v cs))) (hd : ∀ ρ', I ds.length ρ' → Φ (.nx ρ'))
    (hp : PassesOwn (model X.prog X.w) X.A X.env X.xe := by exact PassesOwn.never) (hf : ∀ x, foldedSetIterable iter X.env x = pure x := by intro _; rfl) : WS X (.For tg iter body [] pos) ρ Φ := fun B0 B σ H0 H Dn j k => by
  refine ⟨_, ps_for hp hc pi_star pg_star pss_star hf, hi B0 B σ H0 H _ j fun Jt G0 G g0 ⟨GG, Y, w, hG, hY⟩ => ?_⟩
  have j0 := j.grow g0
  refine for_it w (fun i σ' H1 => ∃ ρ' L0, I i ρ' ∧ J X.K G0 B σ' L0 H1 ρ') ⟨ρ, G0, h0, j0.rebase⟩ (fun i σ' H1 _ ⟨ρ', L0, _, j1⟩ => hG L0 H1 j1.hp.s0 j1.hp.sh) ?_ ?_
  · rintro i x σ1 H1 H1' hi ⟨ρ1, L0, hI, j1⟩ hy
    obtain ⟨d, hd'⟩ : ∃ d, ds[i]? = some d := ⟨ds[i], by simp [hi]⟩
    obtain ⟨L1, g2, rx⟩ := hY i L0 H1 x H1' d hd' j1.hp.s0 j1.hp.sh hy
    obtain ⟨is, ρ2, hg, hb⟩ := hs i d ρ1 hd' hI
    refine hg G0 B σ1 L1 H1' x _ (j1.grow g2) rx fun σ2 j2 _ => ?_
    refine hb G0 B σ2 L1 H1' _ j2 fun o ho => ?_
    cases o with
    | nx r => exact fun σ3 M0 M j3 => ⟨r, M0, ho, j3⟩
    | ct r => exact fun σ3 M0 M j3 => ⟨r, M0, ho, j3⟩
    | bk r => exact fun σ3 M0 M j3 => k _ ho σ3 M0 M (j0.unbase j3)
    | rt v => exact fun v' M0 M g r => k _ ho v' M0 M ⟨j0.hp.s0.trans g.s0, g.sh, g.sB, fun b u e n e' => g.fr b u e n (j0.hp.fr b u e n e')⟩ r
    | ro c => exact fun a o M0 M g h1 h2 h3 r => k _ ho a o M0 M ⟨j0.hp.s0.trans g.s0, g.sh, g.sB, fun b u e n e' => g.fr b u e n (j0.hp.fr b u e n e')⟩ h1 h2 h3 r
    | rc v cs => exact fun a M0 M g h1 h2 r => k _ ho a M0 M ⟨j0.hp.s0.trans g.s0, g.sh, g.sB, fun b u e n e' => g.fr b u e n (j0.hp.fr b u e n e')⟩ h1 h2 r
  · rintro σ1 H1 ⟨ρ1, L0, hI, j1⟩
    exact k _ (hd ρ1 hI) σ1 L0 H1 (j0.unbase j1)
end
end DL
namespace DL
open PySem PySem.Spec PyProof.Rows L2
def en (N : List Str) (ds : List D) : En := ds.map Sl.sh ++ List.replicate (N.length - ds.length) Sl.no
section
variable {P : Program} {w : World} {K : PySem.W.Frag} {mg : Str → Option Value} {base : Heap}
theorem en_kind {N : List Str} {ds : List D} {i : Nat} {s : Sl} (h : (en N ds)[i]? = some s) : s = .no ∨ ∃ d, s = .sh d := by
  unfold en at h
  by_cases hi : i < ds.length
  · rw [List.getElem?_append_left (by simpa using hi), List.getElem?_map, show ds[i]? = some ds[i] by simp [hi]] at h
    cases h; exact .inr ⟨_, rfl⟩
  · rw [List.getElem?_append_right (by simp; omega), List.getElem?_replicate] at h
    split at h
    · cases h; exact .inl rfl
    · cases h
theorem j_start {N : List Str} {H0 H : Hp} {ds : List D} {vs : List V} (s : Same H0 H) (r : DRs K H0 ds vs) (hl : ds.length ≤ N.length) : J K H0 H (L2.start N vs) H0 H (en N ds) := by
  have hlen := DRs.length r
  refine ⟨JH.refl s, by simp [L2.start, en, hlen], fun i sl ov h1 h2 => ?_, fun i j s1 s2 o1 o2 a h1 _ _ _ w _ => absurd w (Owns.none (en_kind h1) a)⟩
  unfold en at h1
  unfold L2.start at h2
  by_cases hi : i < ds.length
  · rw [List.getElem?_append_left (by simpa using hi), List.getElem?_map] at h1
    rw [List.getElem?_append_left (by simp; omega), List.getElem?_map] at h2
    obtain ⟨v, e1, e2⟩ := DRs.get r (show ds[i]? = some ds[i] by simp [hi])
    rw [show ds[i]? = some ds[i] by simp [hi]] at h1
    rw [e1] at h2
    cases h1; cases h2
    exact ⟨v, rfl, e2⟩
  · rw [List.getElem?_append_right (by simp; omega), List.getElem?_replicate] at h1
    split at h1
    · cases h1; trivial
    · cases h1
/-- the context of a def's body -/
abbrev bx (P : Program) (w : World) (K : PySem.W.Frag) (mg : Str → Option Value) (base : Heap) (N : List Str) (qual : Str) (st : Stmt) (f : Addr) (cdv : Value) (A : Around) (outer : List Env) (s : Shared) (H : Hp) (E : XK) : Cx :=
  (cxOf CX0 P w K mg base N qual (defScope st) f cdv A outer s H E).nox
theorem fn_ok {x qual : Str} {st : Stmt} {f : Addr} {fd : FuncData} {N ps : List Str} {k : Nat} {R : List D → D → Prop} (F : Fun K x qual st f fd) (S : FnScope N ps (defScope st)) (hR : ∀ ds d, R ds d → ds.length = ps.length)
    (h : ∀ ds d, R ds d → ∀ (cdv : Value) (A : Around) (outer : List Env) (s : Shared) (H : Hp) (E : XK), Room k (A.deeper (envOfC qual (defScope st) s.heap.objs.size f cdv)) →
      WSs (bx P w K mg base N qual st f cdv A outer s H E) (defBody st) (en N ds) (fun o => o = .rt d ∨ (∃ ρ, o = .nx ρ ∧ d = .non))) : FnOk P w K mg base CX0 (k + 1) f fd ps (spR K R) := by
  refine F.ok S (fun vs H Q E hs => ?_) fun cdv A outer s H vs Q E hr hs => ?_
  · obtain ⟨H0, ds, d, _, r, q, _⟩ := hs
    rw [← DRs.length r]; exact hR ds d q
  · obtain ⟨H0, ds, d, s0, r, q, kk⟩ := hs
    have hN : ds.length ≤ N.length := by
      have h1 := hR ds d q
      have h2 := congrArg List.length S.pre
      rw [List.length_take] at h2
      omega
    obtain ⟨t, h1, h2⟩ := h ds d q cdv A outer s H E hr H0 H (L2.start N vs) H0 H (j_start s0 r hN) (Dn := { nx := fun _ H' => Q .non H', rt := Q }) fun o ho => by
      rcases ho with rfl | ⟨ρ, rfl, rfl⟩
      · exact fun v G0 G g rv => kk v G0 G g rv
      · exact fun σ G0 G j => kk .non G0 G j.hp rfl
    exact ⟨t, h1, h2⟩
/-- what a law promises -/
inductive RLaw : List D → D → Prop where
  | mk (ns : List Int) (h : ns.length ≤ 63) : RLaw [.lst (ns.map .int)] (.bl true)
def spLaw (K : PySem.W.Frag) : Sp := fun vs H Q _ => ∃ (a : Addr) (ns : List Int), vs = [.ref a] ∧ SqL K H a (ns.map V.int) ∧ ns.length ≤ 63 ∧ ∀ H', Q (.bl true) H'
theorem law_sp {k : Nat} {f : Addr} {fd : FuncData} {ps : List Str} (F : FnOk P w K mg base CX0 k f fd ps (spR K RLaw)) : FnOk P w K mg base CX0 k f fd ps (spLaw K) :=
  F.imp fun vs H Q E ⟨a, ns, e, hS, hl, q⟩ => ⟨H, [.lst (ns.map .int)], .bl true, Same.refl H, by rw [e]; exact ⟨.ref a, [], rfl, ⟨a, _, rfl, hS, DRs.ofInts ns⟩, rfl⟩, ⟨ns, hl⟩, fun r H0' H' g rr => by
    cases (show r = .bl true from rr); exact q H'⟩
theorem walk_law {l : PySem.W.OpenLaw} {q : Program} {loose : List Str} {XP : (Str → Option Value) → Heap → Prop} {YP : World → Heap → Prop} {d : DefRec} {K : Params → PySem.W.Frag} {k : Nat} (hn : l.most = some 63) (hr : Room k callerA) (hdf : d.params.defaults = [])
    (hY : ∀ (w : World) (h : Heap), YP w h → (K w.params).In h)
    (F : ∀ (w : World) (mg : Str → Option Value) (fa : Addr) (h : Heap), (K w.params).In h → h.Ns mainGlobals mg → mg d.name = some (.ref fa) →
      ∃ fd : FuncData, (∀ (s : Shared) (u : Value), BindsTo s fd ⟨[u], []⟩ [("script", u)]) ∧ ∀ base : Heap, (K w.params).In base → base.Ns mainGlobals mg → FnOk l.prog w (K w.params) mg base CX0 k fa fd ["script"] (spR (K w.params) RLaw)) :
    PySem.W.WalkO q loose XP YP l.row.toRowW d [] (fun f vs => PySem.call f vs) :=
  L2.walk_of (n := 63) (k := k) (x := "script") (CX := fun _ => CX0) (sp := fun w => spLaw (K w.params)) hn (by decide) hdf hr hY
    (fun w mg fa h KX G e => let ⟨fd, h1, h2⟩ := F w mg fa h KX G e; ⟨fd, h1, fun base b1 b2 => law_sp (h2 base b1 b2)⟩) (fun _ _ a ns hl _ hS => ⟨a, ns, rfl, hS, hl, fun _ => rfl⟩) fun _ _ _ _ _ z => z
end
section
variable {X : Cx} {ρ : En}
/-- an item of a list, a tuple, a text -/
inductive IX : D → D → D → Prop where
  | t {ds i d} (h : atI ds i = some d) : IX (.tup ds) (.int i) d
  | l {ds i d} (h : atI ds i = some d) : IX (.lst ds) (.int i) d
theorem IX.t0 {a r} : IX (.tup (a :: r)) (.int 0) a := .t (by unfold atI ixN; simp only [List.length_cons]; rw [if_pos (by decide), if_pos (by omega)]; rfl)
theorem IX.t1 {a b r} : IX (.tup (a :: b :: r)) (.int 1) b := .t (by unfold atI ixN; simp only [List.length_cons]; rw [if_pos (by decide), if_pos (by omega)]; rfl)
theorem IX.t2 {a b c r} : IX (.tup (a :: b :: c :: r)) (.int 2) c := .t (by unfold atI ixN; simp only [List.length_cons]; rw [if_pos (by decide), if_pos (by omega)]; rfl)
theorem IX.t3 {a b c d r} : IX (.tup (a :: b :: c :: d :: r)) (.int 3) d := .t (by unfold atI ixN; simp only [List.length_cons]; rw [if_pos (by decide), if_pos (by omega)]; rfl)
theorem IX.t4 {a b c d e r} : IX (.tup (a :: b :: c :: d :: e :: r)) (.int 4) e := .t (by unfold atI ixN; simp only [List.length_cons]; rw [if_pos (by decide), if_pos (by omega)]; rfl)
theorem IX.t5 {a b c d e f r} : IX (.tup (a :: b :: c :: d :: e :: f :: r)) (.int 5) f := .t (by unfold atI ixN; simp only [List.length_cons]; rw [if_pos (by decide), if_pos (by omega)]; rfl)
theorem IX.l0 {a r} : IX (.lst (a :: r)) (.int 0) a := .l (by unfold atI ixN; simp only [List.length_cons]; rw [if_pos (by decide), if_pos (by omega)]; rfl)
theorem IX.l1 {a b r} : IX (.lst (a :: b :: r)) (.int 1) b := .l (by unfold atI ixN; simp only [List.length_cons]; rw [if_pos (by decide), if_pos (by omega)]; rfl)
theorem IX.l2 {a b c r} : IX (.lst (a :: b :: c :: r)) (.int 2) c := .l (by unfold atI ixN; simp only [List.length_cons]; rw [if_pos (by decide), if_pos (by omega)]; rfl)
theorem ed_ix {a b : Expr} {d1 d2 d : D} {pos : Pos} (ha : ED X ρ a d1) (hb : ED X ρ b d2) (h : IX d1 d2 d) (hs : PlainIx b := by exact fun _ _ => rfl) : ED X ρ (.Subscript a b pos) d := by
  cases h with
  | t h => exact ix_t ha hb h hs
  | l h => exact ix_l ha hb h hs
theorem atI_nn {α : Type} {xs : List α} {i : Int} {v : α} (h0 : 0 ≤ i) (h : xs[i.toNat]? = some v) : atI xs i = some v := by
  have e : ((i.toNat : Nat) : Int) = i := Int.toNat_of_nonneg h0
  rw [← e]; exact atI_nat h
/-- isinstance of a built-in class -/
def tyD : D → Option String
  | .non => some "NoneType" | .bl _ => some "bool" | .int _ => some "int" | .str _ => some "str"
  | .lst _ => some "list" | .tup _ => some "tuple" | .dk _ _ => some "dict" | .dt _ _ => none | .obj _ _ _ => none | .ad _ => none | .ptp _ => none | .etp _ => none | .exc _ _ _ _ => none | .ty _ => none
theorem tyx_of {K : PySem.W.Frag} {H : Hp} {d : D} {v : V} {n : String} (h : DR K H d v) (hn : tyD d = some n) (hnn : n ≠ "NoneType") : TyX K H v (.type n) := by
  cases d with
  | non => cases hn; exact absurd rfl hnn
  | bl _ => cases (show v = .bl _ from h); cases hn; exact .base (.bl _)
  | int _ => cases (show v = .int _ from h); cases hn; exact .base (.int _)
  | str _ => cases (show v = .str _ from h); cases hn; exact .base (.str _)
  | lst _ =>
    obtain ⟨a, vs, rfl, h1, _⟩ := h
    cases hn
    rcases h1 with (h1 | ⟨o, h1⟩) | ⟨o, its, n, h1, h2, _⟩
    · exact .base (.lst h1)
    · exact .base (.frz h1)
    · exact .kList h1 h2
  | tup _ =>
    obtain ⟨a, vs, rfl, h1, _⟩ := h
    cases hn
    rcases h1 with (h1 | ⟨o, h1⟩) | ⟨o, its, n, h1, h2, _⟩
    · exact .base (.tup h1)
    · exact .fTuple h1
    · exact .kTuple h1 h2
  | dk _ _ =>
    obtain ⟨a, vs, rfl, h1, _⟩ := h
    cases hn
    rcases h1 with h1 | ⟨o, h1⟩
    · exact .base (.dK h1)
    · exact .fDict h1
  | dt _ _ => cases hn
  | obj _ _ _ => cases hn
  | ad _ => cases hn
  | ptp _ => cases hn
  | etp _ => cases hn
  | exc _ _ _ _ => cases hn
  | ty _ => cases hn
theorem bc_isi {d : D} {n c : String} {b : Bool} (hn : tyD d = some n) (h : kitB n c = some b) (hnn : n ≠ "NoneType" := by decide) : BC X (.builtin "isinstance") [d, .ty c] (.bl b) :=
  bc_keep call_isi _ (fun _ => rfl) fun H0 H vs _ s r q => by
    obtain ⟨x, y, rfl, h1, h2⟩ := r.two
    cases (show y = .ty c from h2)
    exact ⟨x, .ty c, .type n, .type c, b, rfl, .ty c, tyx_of (DR.mono s _ _ h1) hn hnn, kit_ty h, q⟩
theorem ed_ty {x : Str} {n : String} {pos : Pos} (hg : Gl X x) (hm : X.mg x = none) (hv : bootBuiltins x = some (.type n)) (hn : x ≠ "__name__" := by decide) (hd : (x == ("__debug__" : Str)) = false := by decide) : ED X ρ (.Name x pos) (.ty n) :=
  fun B0 B σ H0 H Q j k => RE.of (pe_bltn (v := .ty n) hg hm hv rfl hn hd) (k _ H0 H (JH.refl j.same) rfl)
theorem filterMap_some {α β : Type} (f : α → β) : ∀ xs : List α, (xs.map fun x => some (f x)).filterMap id = xs.map f
  | [] => rfl
  | x :: xs => by simp [filterMap_some f xs]
section
variable {elt tg iter : Expr} {ifs : List Expr} {scope : Scope} {ds : List D} {cpos pos : Pos} {α β : Type} {Φ : Out → Prop}
theorem turns_map {own : List (Str × Nat)} {xs : List α} {enc : α → D} {f : α → D} (he : ds = xs.map enc) (turn : ∀ x ∈ xs, Turn1 X ρ scope (own.map (·.2)) tg elt ifs (enc x) (some (f x))) :
    ∀ (i : Nat) d y, ds[i]? = some d → (xs.map fun x => some (f x))[i]? = some y → Turn1 X ρ scope (own.map (·.2)) tg elt ifs d y := by
  subst he
  intro i d y h1 h2
  rw [List.getElem?_map] at h1 h2
  cases q : xs[i]? with
  | none => rw [q] at h1; cases h1
  | some x =>
    rw [q] at h1 h2
    cases h1; cases h2
    exact turn x (List.mem_of_getElem? q)
/-- [f x for x in xs] -/
theorem eo_map (own : List (Str × Nat)) (xs : List α) (enc : α → D) (f : α → D) (hc : X.calm = true) (hN : X.N.Nodup) (ok : BlkOk X.N X.env.scope scope own) (hi : ID X ρ tg iter ds) (he : ds = xs.map enc) (turn : ∀ x ∈ xs, Turn1 X ρ scope (own.map (·.2)) tg elt ifs (enc x) (some (f x))) (hl : xs.length ≤ sizeLine)
    (hs : ∀ x, foldedSetIterable iter X.env x = pure x := by intro _; rfl) : EO X ρ (.ListComp elt [⟨tg, iter, ifs, 0⟩] scope cpos) (.lst (xs.map f)) := by
  have h := eo_lc (cpos := cpos) own hc hN ok hi (xs.map fun x => some (f x)) (by rw [he]; simp) (turns_map he turn) (by rw [he]; simpa using hl) hs
  rwa [filterMap_some] at h
theorem ws_setMap (i : Nat) (own : List (Str × Nat)) (xs : List α) (enc : α → D) (f : α → D) {y : Str} {py : Pos} (hc : X.calm = true) (hN : X.N.Nodup) (ok : BlkOk X.N X.env.scope scope own) (hi : ID X ρ tg iter ds) (he : ds = xs.map enc) (turn : ∀ x ∈ xs, Turn1 X ρ scope (own.map (·.2)) tg elt ifs (enc x) (some (f x))) (hl : xs.length ≤ sizeLine)
    (hΦ : Φ (.nx (ρ.set i (.ow (.lst (xs.map f)))))) (hy : X.N[i]? = some y := by rfl) (hyl : X.env.scope.names.lookup y = some .local := by rfl)
    (hsw : swapsWith (.ListComp elt [⟨tg, iter, ifs, 0⟩] scope cpos) (some (.Name y py)) pos.line X.env = pure true := by exact sw_true rfl rfl rfl (by decide +kernel)) (hs : ∀ x, foldedSetIterable iter X.env x = pure x := by intro _; rfl) :
    WS X (.Assign [.Name y py] (.ListComp elt [⟨tg, iter, ifs, 0⟩] scope cpos) pos) ρ Φ :=
  ws_setLc i own hc hN ok hi (xs.map fun x => some (f x)) (by rw [he]; simp) (turns_map he turn) (by rw [he]; simpa using hl) (by rw [filterMap_some]; exact hΦ) hy hyl hsw hs
/-- for x in xs: I by the turn and the slots -/
theorem ws_forT (xs : List α) (enc : α → D) {body : List Stmt} (hc : X.calm = true) (hi : ID X ρ tg iter ds) (he : ds = xs.map enc) (I : Nat → En → Prop) (h0 : I 0 ρ)
    (hs : ∀ i x ρ', xs[i]? = some x → I i ρ' → ∃ is ρ'', DG X is tg (enc x) ρ' ρ'' ∧ WSs X body ρ'' (fun o => match o with | .nx r => I (i + 1) r | .ct r => I (i + 1) r | .bk r => Φ (.nx r) | .rt v => Φ (.rt v) | .ro c => Φ (.ro c) | .rc v cs => Φ (.rc v cs))) (hd : ∀ ρ', I xs.length ρ' → Φ (.nx ρ'))
    (hp : PassesOwn (model X.prog X.w) X.A X.env X.xe := by exact PassesOwn.never) (hf : ∀ x, foldedSetIterable iter X.env x = pure x := by intro _; rfl) : WS X (.For tg iter body [] pos) ρ Φ := by
  subst he
  refine ws_for hc hi I h0 (fun i d ρ' h1 h2 => ?_) (by simpa using hd) hp hf
  rw [List.getElem?_map] at h1
  cases q : xs[i]? with
  | none => rw [q] at h1; cases h1
  | some x =>
    rw [q] at h1
    cases h1
    exact hs i x ρ' q h2
end
def tru : D → Option Bool
  | .non => some false | .bl b => some b | .int i => some (i != 0) | .lst ds => some (!ds.isEmpty) | .tup ds => some (!ds.isEmpty) | _ => none
theorem DRs.emp {K : PySem.W.Frag} {H : Hp} {ds : List D} {vs : List V} (h : DRs K H ds vs) : vs.isEmpty = ds.isEmpty := by
  cases ds with
  | nil => cases (show vs = [] from h); rfl
  | cons d ds => obtain ⟨v, r, rfl, _⟩ := h; rfl
theorem td_truth {e : Expr} {d : D} {k : Bool} (h : ED X ρ e d) (hk : tru d = some k) (he : ∀ whole, isTrue e X.env whole = (do let v ← whole; standAt e.pos; holding [v] (truthy v)) := by intro _; rfl) : TD X ρ e k := fun B0 B σ H0 H Q j kk =>
  RT.of (pt_truth pe_star he) (h B0 B σ H0 H _ j fun v H0' H' g r => by
    cases d with
    | non => cases (show v = .non from r); cases hk; exact ⟨_, rfl, kk _ _ g⟩
    | bl _ => cases (show v = .bl _ from r); cases hk; exact ⟨_, rfl, kk _ _ g⟩
    | int _ => cases (show v = .int _ from r); cases hk; exact ⟨_, rfl, kk _ _ g⟩
    | lst ds =>
      obtain ⟨a, vs, rfl, h1, h2⟩ := r
      cases hk
      exact ⟨_, .inl ⟨vs, g.sh.seq h1, rfl⟩, by rw [h2.emp]; exact kk _ _ g⟩
    | tup ds =>
      obtain ⟨a, vs, rfl, h1, h2⟩ := r
      cases hk
      exact ⟨_, .inr (.inl ⟨vs, Same.seqT g.sh h1, rfl⟩), by rw [h2.emp]; exact kk _ _ g⟩
    | str _ => cases hk
    | ty _ => cases hk
    | dk _ _ => cases hk
    | dt _ _ => cases hk
    | obj _ _ _ => cases hk
    | ad _ => cases hk
    | ptp _ => cases hk
    | etp _ => cases hk
    | exc _ _ _ _ => cases hk)
theorem fn_wrap {P : Program} {w : World} {K : PySem.W.Frag} {mg : Str → Option Value} {base : Heap} {x : Str} {f : Addr} {fd : FuncData} {ps : List Str} {k : Nat} {R : List D → D → Prop} (hm : mg x = some (.ref f)) (hb : Binds K fd ps []) (kp : PySem.W.keepIn K (.ref f) = true) (F : FnOk P w K mg base CX0 k f fd ps (spR K R)) :
    Fn P w K mg base x k R := ⟨⟨f, fd, ps, F, hm, kp, hb⟩⟩
theorem b2_powL {i j n : Int} (h : CPow i j) (e : i ^ j.toNat = n) : B2 X .Pow (.int i) (.int j) (.int n) := e ▸ b2_pow h
inductive Part (X : Cx) (ρ : En) : Option Expr → Option Int → Prop where
  | none : Part X ρ none none
  | some {e i} (h : ED X ρ e (.int i)) : Part X ρ (some e) (some i)
theorem no_part : Part X ρ none none := .none
theorem some_part {e i} (h : ED X ρ e (.int i)) : Part X ρ (some e) (some i) := .some h
def RP (X : Cx) (e : Option Expr) : TO := fun σ H Q => ∃ t, PO X e t ∧ t σ H Q
theorem po_star {e} : PO X e (RP X e) := ⟨fun pins s σ H Q I ⟨_, h, q⟩ => h.run pins s σ H Q I q⟩
theorem Part.run {e : Option Expr} {o : Option Int} (h : Part X ρ e o) {B0 B : Hp} {σ : L2.St} {H0 H : Hp} {Q : Option Int → Hp → Prop} (j : J X.K B0 B σ H0 H ρ) (k : ∀ H0' H', JH H0 H H0' H' → Q o H') : RP X e σ H Q := by
  cases h with
  | none => exact ⟨_, po_none, k H0 H (JH.refl j.same)⟩
  | some h => exact ⟨_, po_some pe_star, h B0 B σ H0 H _ j fun v H0' H' g r => ⟨_, r, k H0' H' g⟩⟩
def cutD (xs : List D) (lo hi : Option Int) : List D := (xs.drop (HT.sIx xs.length 0 lo)).take (HT.sIx xs.length xs.length hi - HT.sIx xs.length 0 lo)
theorem DRs.cut {K : PySem.W.Frag} {H : Hp} {ds : List D} {vs : List V} (h : DRs K H ds vs) (lo hi : Option Int) : DRs K H (cutD ds lo hi) (cutV vs lo hi) := by
  unfold cutD cutV
  rw [← DRs.length h]
  exact DRs.take _ (DRs.drop _ h)
theorem eo_slice {e : Expr} {lo hi : Option Expr} {p q : Option Int} {ds : List D} {p2 pos : Pos} (he : ED X ρ e (.lst ds)) (hl : Part X ρ lo p) (hh : Part X ρ hi q) : EO X ρ (.Subscript e (.Slice lo hi none p2) pos) (.lst (cutD ds p q)) := fun B0 B σ H0 H Q j k =>
  RE.of (pe_slice sl_list pe_star po_star po_star) (he B0 B σ H0 H _ j fun v G0 G g1 r => hl.run (j.grow g1) fun L0 L g2 => hh.run ((j.grow g1).grow g2) fun M0 M g3 => by
    obtain ⟨a, vs, rfl, h1, h2⟩ := r
    have g := g2.trans g3
    exact ⟨a, vs, rfl, g.sh.seq (g.s0.seq h1), fun p hp => k p _ M0 _ ((g1.trans g).trans (JH.own g.sh hp)) upd_same (g.sh.free hp) ((g1.trans g).sB.free hp) ⟨_, rfl, DRs.cut (DRs.mono g.s0 _ _ h2) _ _⟩⟩)
theorem rngD0 (n : Nat) : rngD 0 n = (List.range n).map fun (i : Nat) => D.int (i : Int) := by
  unfold rngD
  refine List.map_congr_left fun i _ => ?_
  rw [Int.zero_add]
/-- some slots changed -/
def upds (ρ : En) (l : List (Nat × Sl)) : En := l.foldl (fun r p => r.set p.1 p.2) ρ
/-- for x in xs: what changes from turn to turn is told slot by slot: G, of the turn and of what one doesn't care for (V reads it off) -/
theorem ws_forU {α U : Type} {tg iter : Expr} {ds : List D} {pos : Pos} {Φ : Out → Prop} (xs : List α) (enc : α → D) {body : List Stmt} (hc : X.calm = true) (hi : ID X ρ tg iter ds) (he : ds = xs.map enc) (G : Nat → U → List (Nat × Sl)) (V : En → U) (P : Nat → Prop) (hρ : upds ρ (G 0 (V ρ)) = ρ) (h0 : P 0)
    (hs : ∀ i x u, xs[i]? = some x → P i → ∃ is ρ'', DG X is tg (enc x) (upds ρ (G i u)) ρ'' ∧ WSs X body ρ'' (fun o => match o with | .nx r => upds ρ (G (i + 1) (V r)) = r ∧ P (i + 1) | .ct r => upds ρ (G (i + 1) (V r)) = r ∧ P (i + 1) | .bk r => Φ (.nx r) | .rt v => Φ (.rt v) | .ro c => Φ (.ro c) | .rc v cs => Φ (.rc v cs)))
    (hd : ∀ u, P xs.length → Φ (.nx (upds ρ (G xs.length u))))
    (hp : PassesOwn (model X.prog X.w) X.A X.env X.xe := by exact PassesOwn.never) (hf : ∀ x, foldedSetIterable iter X.env x = pure x := by intro _; rfl) : WS X (.For tg iter body [] pos) ρ Φ := by
  refine ws_forT xs enc hc hi he (fun i r => (∃ u, upds ρ (G i u) = r) ∧ P i) ⟨⟨V ρ, hρ⟩, h0⟩ (fun i x r hx hI => ?_) (fun r hI => ?_) hp hf
  · obtain ⟨⟨u, rfl⟩, p⟩ := hI
    obtain ⟨is, r2, h1, h2⟩ := hs i x u hx p
    refine ⟨is, r2, h1, ws_mono h2 fun o ho => ?_⟩
    cases o with
    | nx r => exact ⟨⟨_, ho.1⟩, ho.2⟩
    | ct r => exact ⟨⟨_, ho.1⟩, ho.2⟩
    | bk r => exact ho
    | rt v => exact ho
    | ro c => exact ho
    | rc v cs => exact ho
  · obtain ⟨⟨u, rfl⟩, p⟩ := hI
    exact hd u p
end
theorem bb_len : bootBuiltins (PySem.Str.ofString "len") = some (.builtin "len") := by decide +kernel
theorem bb_all : bootBuiltins (PySem.Str.ofString "all") = some (.builtin "all") := by decide +kernel
theorem bb_isinstance : bootBuiltins (PySem.Str.ofString "isinstance") = some (.builtin "isinstance") := by decide +kernel
theorem bb_sorted : bootBuiltins (PySem.Str.ofString "sorted") = some (.builtin "sorted") := by decide +kernel
theorem bb_int : bootBuiltins (PySem.Str.ofString "int") = some (.type "int") := by decide +kernel
theorem bb_tuple : bootBuiltins (PySem.Str.ofString "tuple") = some (.type "tuple") := by decide +kernel
theorem bb_str : bootBuiltins (PySem.Str.ofString "str") = some (.type "str") := by decide +kernel
theorem bb_dict : bootBuiltins (PySem.Str.ofString "dict") = some (.type "dict") := by decide +kernel
theorem bb_set : bootBuiltins (PySem.Str.ofString "set") = some (.type "set") := by decide +kernel
end DL
namespace DL
open PySem PySem.Spec PyProof.Rows L2
/-- data of ints and short texts, n deep -/
def smallStr (x : Str) : Prop := PyData.strOk x = true
inductive Cm : Nat → D → Prop where
  | int {n i} : Cm n (.int i)
  | str {n x} (h : smallStr x) : Cm n (.str x)
  | tup {n ds} (h : ∀ d ∈ ds, Cm n d) : Cm (n + 1) (.tup ds)
  | lst {n ds} (h : ∀ d ∈ ds, Cm n d) : Cm (n + 1) (.lst ds)
theorem Cm.mono {n m : Nat} (h : n ≤ m) {d : D} (c : Cm n d) : Cm m d := by
  induction c generalizing m with
  | int => exact .int
  | str q => exact .str q
  | tup _ ih =>
    obtain ⟨m, rfl⟩ : ∃ m', m = m' + 1 := ⟨m - 1, by omega⟩
    exact .tup fun d hd => ih d hd (by omega)
  | lst _ ih =>
    obtain ⟨m, rfl⟩ : ∃ m', m = m' + 1 := ⟨m - 1, by omega⟩
    exact .lst fun d hd => ih d hd (by omega)
theorem plains_iff : ∀ {ds : List D}, (∀ d ∈ ds, d.plain = true) → D.plains ds = true
  | [], _ => by simp [D.plains]
  | d :: ds, h => by simp only [D.plains, Bool.and_eq_true]; exact ⟨h d (by simp), plains_iff fun e he => h e (by simp [he])⟩
theorem lays_iff : ∀ {ds : List D}, (∀ d ∈ ds, d.py.canLay0 = true) → PyData.canLayAll0 (D.pys ds) = true
  | [], _ => by simp [D.pys, PyData.canLayAll0]
  | d :: ds, h => by simp only [D.pys, PyData.canLayAll0, Bool.and_eq_true]; exact ⟨h d (by simp), lays_iff fun e he => h e (by simp [he])⟩
theorem depths_le : ∀ {ds : List D} {n : Nat}, (∀ d ∈ ds, d.py.depth ≤ n) → PyData.depthAll (D.pys ds) ≤ n
  | [], n, _ => by simp [D.pys, PyData.depthAll]
  | d :: ds, n, h => by
    simp only [D.pys, PyData.depthAll]
    have h1 := h d (by simp)
    have h2 := depths_le (ds := ds) (n := n) fun e he => h e (by simp [he])
    omega
theorem Cm.plain {n : Nat} {d : D} (c : Cm n d) : d.plain = true := by
  induction c with
  | int => simp [D.plain]
  | str _ => simp [D.plain]
  | tup _ ih => simp only [D.plain]; exact plains_iff ih
  | lst _ ih => simp only [D.plain]; exact plains_iff ih
theorem Cm.lay {n : Nat} {d : D} (c : Cm n d) : d.py.canLay0 = true := by
  induction c with
  | int => simp [D.py, PyData.canLay0]
  | str h => simp only [D.py, PyData.canLay0]; exact h
  | tup _ ih => simp only [D.py, PyData.canLay0]; exact lays_iff ih
  | lst _ ih => simp only [D.py, PyData.canLay0]; exact lays_iff ih
theorem Cm.depth {n : Nat} {d : D} (c : Cm n d) : d.py.depth ≤ n + 1 := by
  induction c with
  | int => simp [D.py, PyData.depth]
  | str _ => simp [D.py, PyData.depth]
  | tup _ ih => simp only [D.py, PyData.depth]; have := depths_le ih; omega
  | lst _ ih => simp only [D.py, PyData.depth]; have := depths_le ih; omega
theorem Cm.cmp {n : Nat} {d : D} (c : Cm n d) (hn : n ≤ 63) : Cmp d := ⟨c.plain, by
  unfold SeqAt.shaped
  rw [c.lay]
  have := c.depth
  simp; omega⟩
theorem Cm.inv {n : Nat} {d : D} (c : Cm n d) : (∃ i, d = .int i) ∨ (∃ x, d = .str x) ∨ (∃ ds m, d = .tup ds ∧ n = m + 1 ∧ ∀ e ∈ ds, Cm m e) ∨ (∃ ds m, d = .lst ds ∧ n = m + 1 ∧ ∀ e ∈ ds, Cm m e) := by
  cases c with
  | int => exact .inl ⟨_, rfl⟩
  | str _ => exact .inr (.inl ⟨_, rfl⟩)
  | tup h => exact .inr (.inr (.inl ⟨_, _, rfl, rfl, h⟩))
  | lst h => exact .inr (.inr (.inr ⟨_, _, rfl, rfl, h⟩))
theorem eqvs_iff {n m : Nat} (ih : ∀ d e, Cm n d → Cm m e → (PyData.eqv d.py e.py = true ↔ d = e)) : ∀ (ds es : List D), (∀ d ∈ ds, Cm n d) → (∀ e ∈ es, Cm m e) → (PyData.eqvAll (D.pys ds) (D.pys es) = true ↔ ds = es)
  | [], [], _, _ => by simp [D.pys, PyData.eqvAll]
  | [], e :: es, _, _ => by simp [D.pys, PyData.eqvAll]
  | d :: ds, [], _, _ => by simp [D.pys, PyData.eqvAll]
  | d :: ds, e :: es, h1, h2 => by
    have h3 := eqvs_iff ih ds es (fun x hx => h1 x (by simp [hx])) (fun x hx => h2 x (by simp [hx]))
    have h4 := ih d e (h1 d (by simp)) (h2 e (by simp))
    simp only [D.pys, PyData.eqvAll, Bool.and_eq_true, h3, h4, List.cons.injEq]
theorem eqv_iff : ∀ (n m : Nat) (d e : D), Cm n d → Cm m e → (PyData.eqv d.py e.py = true ↔ d = e)
  | n, m, d, e, c, c' => by
    rcases c.inv with ⟨i, rfl⟩ | ⟨x, rfl⟩ | ⟨ds, k, rfl, rfl, h⟩ | ⟨ds, k, rfl, rfl, h⟩ <;> rcases c'.inv with ⟨j, rfl⟩ | ⟨y, rfl⟩ | ⟨es, l, rfl, rfl, h'⟩ | ⟨es, l, rfl, rfl, h'⟩
    · simp [D.py, PyData.eqv]
    · simp [D.py, PyData.eqv]
    · simp [D.py, PyData.eqv]
    · simp [D.py, PyData.eqv]
    · simp [D.py, PyData.eqv]
    · simp [D.py, PyData.eqv]
    · simp [D.py, PyData.eqv]
    · simp [D.py, PyData.eqv]
    · simp [D.py, PyData.eqv]
    · simp [D.py, PyData.eqv]
    · simp only [D.py, PyData.eqv, D.tup.injEq]
      exact eqvs_iff (fun d e c c' => eqv_iff k l d e c c') ds es h h'
    · simp [D.py, PyData.eqv]
    · simp [D.py, PyData.eqv]
    · simp [D.py, PyData.eqv]
    · simp [D.py, PyData.eqv]
    · simp only [D.py, PyData.eqv, D.lst.injEq]
      exact eqvs_iff (fun d e c c' => eqv_iff k l d e c c') ds es h h'
theorem Cm.ints {n : Nat} {ns : List Int} : ∀ d ∈ ns.map D.int, Cm n d := fun d hd => by
  obtain ⟨i, _, rfl⟩ := List.mem_map.mp hd
  exact .int
theorem Cm.all_nil {n : Nat} : ∀ d ∈ ([] : List D), Cm n d := fun d hd => by simp at hd
theorem Cm.all_cons {n : Nat} {d : D} {ds : List D} (h : Cm n d) (r : ∀ e ∈ ds, Cm n e) : ∀ e ∈ d :: ds, Cm n e := fun e he => by
  rcases List.mem_cons.mp he with rfl | he
  · exact h
  · exact r e he
section
variable {X : Cx} {ρ : En}
theorem c2_eqC {n m : Nat} {d e : D} {k : Bool} (hu : X.A.units + 64 < cLine) (c : Cm n d) (c' : Cm m e) (hk : k = true ↔ d = e) (hn : n ≤ 63 := by decide) (hm : m ≤ 63 := by decide) : C2 X .Eq d e (.bl k) := by
  refine c2_eqD hu (c.cmp hn) (c'.cmp hm) ?_
  have h := eqv_iff n m d e c c'
  cases k with
  | true => exact h.mpr (hk.mp rfl)
  | false =>
    cases q : PyData.eqv d.py e.py with
    | false => rfl
    | true => exact absurd (hk.mpr (h.mp q)) (by simp)
theorem c2_neC {n m : Nat} {d e : D} {k : Bool} (hu : X.A.units + 64 < cLine) (c : Cm n d) (c' : Cm m e) (hk : k = true ↔ d = e) (hn : n ≤ 63 := by decide) (hm : m ≤ 63 := by decide) : C2 X .NotEq d e (.bl (!k)) := by
  refine c2_neD hu (c.cmp hn) (c'.cmp hm) ?_
  have h := eqv_iff n m d e c c'
  cases k with
  | true => exact h.mpr (hk.mp rfl)
  | false =>
    cases q : PyData.eqv d.py e.py with
    | false => rfl
    | true => exact absurd (hk.mpr (h.mp q)) (by simp)
def KD (K : PySem.W.Frag) (d : D) (u : Value) : Prop := ∃ v, RelV v u ∧ ∀ H, DR K H d v
def KDs (K : PySem.W.Frag) (ds : List D) (us : List Value) : Prop := ∃ vs, Vals vs us ∧ ∀ H, DRs K H ds vs
theorem kd_int {K : PySem.W.Frag} {i : Int} {t : Tok} : KD K (.int i) (.int i t) := ⟨.int i, ⟨t, rfl⟩, fun _ => rfl⟩
theorem kd_bl {K : PySem.W.Frag} {b : Bool} : KD K (.bl b) (.bool b) := ⟨.bl b, rfl, fun _ => rfl⟩
theorem kd_str {K : PySem.W.Frag} {x : Str} {t : Tok} : KD K (.str x) (.str x t) := ⟨.str x, ⟨t, rfl⟩, fun _ => rfl⟩
theorem kds_nil {K : PySem.W.Frag} : KDs K [] [] := ⟨[], .nil, fun _ => rfl⟩
theorem kds_cons {K : PySem.W.Frag} {d : D} {ds : List D} {u : Value} {us : List Value} (h : KD K d u) (r : KDs K ds us) : KDs K (d :: ds) (u :: us) := by
  obtain ⟨v, h1, h2⟩ := h
  obtain ⟨vs, h3, h4⟩ := r
  exact ⟨v :: vs, .cons h1 h3, fun H => ⟨v, vs, rfl, h2 H, h4 H⟩⟩
theorem kd_tup {K : PySem.W.Frag} {a : Addr} {o : Obj} {ds : List D} {its : Array Value} {n : Nat} (l : K.lookup a = some o) (c : o.cls = .type "tuple") (e : o.data = .seq its n) (z : its.size ≤ sizeLine) (r : KDs K ds its.toList) : KD K (.tup ds) (.ref a) := by
  obtain ⟨vs, h1, h2⟩ := r
  exact ⟨.ref a, rfl, fun H => ⟨a, vs, rfl, .inr ⟨o, its, n, l, c, e, z, h1⟩, h2 H⟩⟩
structure Cst (K : PySem.W.Frag) (mg : Str → Option Value) (x : Str) (d : D) : Prop where
  ex : ∃ u, mg x = some u ∧ KD K d u
theorem ed_const {x : Str} {d : D} {pos : Pos} (h : Cst X.K X.mg x d) (hg : Gl X x) (hd : (x == ("__debug__" : Str)) = false := by decide) : ED X ρ (.Name x pos) d := fun B0 B σ H0 H Q j k => by
  obtain ⟨u, h1, v, h2, h3⟩ := h.ex
  exact RE.of (pe_glob hg h1 h2 hd) (k v H0 H (JH.refl j.same) (h3 H0))
inductive KWs (X : Cx) (ρ : En) : List Keyword → List D → Prop where
  | nil : KWs X ρ [] []
  | cons {nm e p kws d ds} (h : ED X ρ e d) (r : KWs X ρ kws ds) : KWs X ρ (⟨nm, e, p⟩ :: kws) (d :: ds)
def RK (X : Cx) (kws : List Keyword) : TA := fun σ H Q => ∃ t, PK X kws t ∧ t σ H Q
theorem pk_star {kws} : PK X kws (RK X kws) := ⟨fun pos pins s σ H Q I ⟨_, h, q⟩ => h.run pos pins s σ H Q I q⟩
theorem KWs.run {kws : List Keyword} {ds : List D} (h : KWs X ρ kws ds) : ∀ {B0 B : Hp} {σ : L2.St} {H0 H : Hp} {Q : List V → Hp → Prop}, J X.K B0 B σ H0 H ρ → (∀ vs H0' H', JH H0 H H0' H' → DRs X.K H0' ds vs → Q vs H') → RK X kws σ H Q := by
  induction h with
  | nil => exact fun j k => ⟨_, pk_nil, k [] _ _ (JH.refl j.same) rfl⟩
  | cons h r ih =>
    intro B0 B σ H0 H Q j k
    exact ⟨_, pk_cons pe_star pk_star, h B0 B σ H0 H _ j fun v G0 G g1 r1 => ih (j.grow g1) fun vs L0 L g2 r2 => k (v :: vs) L0 L (g1.trans g2) ⟨v, vs, rfl, DR.mono g2.s0 _ _ r1, r2⟩⟩
end
section
variable {X : Cx} {ρ : En}
theorem ed_ifI {c a b : Expr} {k : Bool} {i j : Int} {pos : Pos} (h : TD X ρ c k) (h1 : k = true → ED X ρ a (.int i)) (h2 : k = false → ED X ρ b (.int j)) : ED X ρ (.IfExp c a b pos) (.int (if k = true then i else j)) :=
  ed_if h (fun e => by subst e; exact h1 rfl) (fun e => by subst e; exact h2 rfl)
theorem ed_ifv {c a b : Expr} {k : Bool} {d e : D} {pos : Pos} (h : TD X ρ c k) (h1 : k = true → ED X ρ a d) (h2 : k = false → ED X ρ b e) : ED X ρ (.IfExp c a b pos) (if k = true then d else e) :=
  ed_if h (fun q => by subst q; exact h1 rfl) (fun q => by subst q; exact h2 rfl)
end
section
variable {X : Cx}
theorem map_int_inj {ns ms : List Int} : ns.map D.int = ms.map D.int ↔ ns = ms := by
  constructor
  · intro h
    exact List.map_inj_right (f := D.int) (fun a b e => by cases e; rfl) |>.mp h
  · rintro rfl; rfl
theorem c2_eqInts {ns ms : List Int} (hu : X.A.units + 64 < cLine) : C2 X .Eq (.tup (ns.map .int)) (.tup (ms.map .int)) (.bl (decide (ns = ms))) :=
  c2_eqC (n := 1) (m := 1) hu (.tup Cm.ints) (.tup Cm.ints) (by simp [map_int_inj])
theorem c2_neInts {ns ms : List Int} (hu : X.A.units + 64 < cLine) : C2 X .NotEq (.tup (ns.map .int)) (.tup (ms.map .int)) (.bl (!decide (ns = ms))) :=
  c2_neC (n := 1) (m := 1) hu (.tup Cm.ints) (.tup Cm.ints) (by simp [map_int_inj])
theorem c2_eqIntsL {ns ms : List Int} (hu : X.A.units + 64 < cLine) : C2 X .Eq (.lst (ns.map .int)) (.lst (ms.map .int)) (.bl (decide (ns = ms))) :=
  c2_eqC (n := 1) (m := 1) hu (.lst Cm.ints) (.lst Cm.ints) (by simp [map_int_inj])
theorem c2_eq2 {a b c d : Int} (hu : X.A.units + 64 < cLine) : C2 X .Eq (.tup [.int a, .int b]) (.tup [.int c, .int d]) (.bl (decide ([a, b] = [c, d]))) := c2_eqInts (ns := [a, b]) (ms := [c, d]) hu
theorem c2_ne2 {a b c d : Int} (hu : X.A.units + 64 < cLine) : C2 X .NotEq (.tup [.int a, .int b]) (.tup [.int c, .int d]) (.bl (!decide ([a, b] = [c, d]))) := c2_neInts (ns := [a, b]) (ms := [c, d]) hu
theorem c2_eq4 {a b c d e f g h : Int} (hu : X.A.units + 64 < cLine) : C2 X .Eq (.tup [.int a, .int b, .int c, .int d]) (.tup [.int e, .int f, .int g, .int h]) (.bl (decide ([a, b, c, d] = [e, f, g, h]))) := c2_eqInts (ns := [a, b, c, d]) (ms := [e, f, g, h]) hu
theorem c2_ne4 {a b c d e f g h : Int} (hu : X.A.units + 64 < cLine) : C2 X .NotEq (.tup [.int a, .int b, .int c, .int d]) (.tup [.int e, .int f, .int g, .int h]) (.bl (!decide ([a, b, c, d] = [e, f, g, h]))) := c2_neInts (ns := [a, b, c, d]) (ms := [e, f, g, h]) hu
end
section
variable {X : Cx} {ρ ρ' : En}
section
variable {elt tg iter : Expr} {ifs : List Expr} {scope : Scope} {ds : List D} {cpos pos : Pos} {α β : Type} {Φ : Out → Prop}
/-- [f x for x in xs], the items of a kind -/
theorem eo_map2 (own : List (Str × Nat)) (xs : List α) (enc : α → D) (g : α → β) (enc2 : β → D) (hc : X.calm = true) (hN : X.N.Nodup) (ok : BlkOk X.N X.env.scope scope own) (hi : ID X ρ tg iter ds) (he : ds = xs.map enc) (turn : ∀ x ∈ xs, Turn1 X ρ scope (own.map (·.2)) tg elt ifs (enc x) (some (enc2 (g x)))) (hl : xs.length ≤ sizeLine)
    (hs : ∀ x, foldedSetIterable iter X.env x = pure x := by intro _; rfl) : EO X ρ (.ListComp elt [⟨tg, iter, ifs, 0⟩] scope cpos) (.lst ((xs.map g).map enc2)) := by
  have h := eo_map (cpos := cpos) own xs enc (fun x => enc2 (g x)) hc hN ok hi he turn hl hs
  rw [List.map_map]; exact h
end
end
end DL
namespace DL
open PySem
/-- the k-th number of a script, 0 behind its end -/
def cellAt (ns : List Int) (k : Int) : Int := ns.getD k.toNat 0
def mix1 (c k : Int) : Int := (c * 48271 + (k + 1) * 69621) % 2147483647
def mix2 (c k : Int) : Int := (mix1 c k * mix1 c k + mix1 c k * 16807 + k * 7919) % 2147483629
def mix3 (c k : Int) : Int := (mix2 c k * mix2 c k + c + 13 * k) % 2147483587
def drawStep (c : Int) (a : List Int × Int) (k : Nat) : List Int × Int :=
  if 1000000000000000000 ≤ c ∧ 0 < a.2 then (a.1 ++ [a.2 % 4096], a.2 / 4096) else (a.1 ++ [mix3 c k / 7 % 4096], a.2)
def drawn (c : Int) (n : Nat) : List Int × Int := (List.range n).foldl (drawStep c) ([], c)
def draws (c n : Int) : List Int := (drawn c n.toNat).1
theorem drawn_succ (c : Int) (n : Nat) : drawn c (n + 1) = drawStep c (drawn c n) n := by
  unfold drawn; rw [List.range_succ, List.foldl_append]; rfl
theorem draws_spec (c : Int) : ∀ n, (drawn c n).1.length = n ∧ ∀ x ∈ (drawn c n).1, 0 ≤ x ∧ x < 4096
  | 0 => by simp [drawn]
  | n + 1 => by
    obtain ⟨h1, h2⟩ := draws_spec c n
    rw [drawn_succ]
    unfold drawStep
    split
    · refine ⟨by simp [h1], fun x hx => ?_⟩
      simp only [List.mem_append, List.mem_singleton] at hx
      rcases hx with hx | rfl
      · exact h2 x hx
      · omega
    · refine ⟨by simp [h1], fun x hx => ?_⟩
      simp only [List.mem_append, List.mem_singleton] at hx
      rcases hx with hx | rfl
      · exact h2 x hx
      · omega
theorem draws_len (c n : Int) : (draws c n).length = n.toNat := (draws_spec c _).1
/-- the k-th draw -/
def dr (c n k : Int) : Int := (draws c n).getD k.toNat 0
theorem dr_get {c n k : Int} (h0 : 0 ≤ k) (h : k < n) : (draws c n)[k.toNat]? = some (dr c n k) := by
  unfold dr
  have : k.toNat < (draws c n).length := by rw [draws_len]; omega
  simp [this]
theorem dr_lo (c n k : Int) : 0 ≤ dr c n k ∧ dr c n k < 4096 := by
  unfold dr
  rw [List.getD_eq_getElem?_getD]
  cases q : (draws c n)[k.toNat]? with
  | none => simp
  | some x => exact (draws_spec c _).2 _ (List.mem_of_getElem? q)
/-- an item of a list of numbers -/
theorem at_ints {ns : List Int} {i : Int} {k : Nat} {x : Int} (e : i = k) (h : ns[k]? = some x) : L2.atI (ns.map D.int) i = some (.int x) := by
  subst e
  exact L2.atI_nat (by rw [List.getElem?_map, h]; rfl)
theorem at_draws {c n i : Int} (h0 : 0 ≤ i) (h : i < n) : L2.atI ((draws c n).map D.int) i = some (.int (dr c n i)) :=
  at_ints (k := i.toNat) (by omega) (dr_get h0 h)
def tC (t : Int) : Int := if t = 1 then 1 else if t = 3 then -1 else if t = 5 then -1 else if t = 7 then 1 else 0
def tD (t : Int) : Int := if t = 0 then 1 else if t = 2 then -1 else if t = 4 then 1 else if t = 6 then -1 else 0
def ty (t x y : Int) : Int := tC t * x + tD t * y
def i4 (a b c d : Int) : D := .tup [.int a, .int b, .int c, .int d]
def ct (f s : Int) : Int := (if 4 ≤ s then s - f else s + f) % 4 + (if ((4 ≤ f) ↔ (4 ≤ s)) then 0 else 4)
def inv (t : Int) : Int := if 4 ≤ t then t else (4 - t) % 4
structure Bx where
  a : Int
  b : Int
  c : Int
  d : Int
  deriving DecidableEq
def Bx.e (x : Bx) : D := .tup [.int x.a, .int x.b, .int x.c, .int x.d]
theorem Bx.inj {x y : Bx} (h : x.e = y.e) : x = y := by
  cases x; cases y
  simp only [Bx.e, D.tup.injEq, List.cons.injEq, D.int.injEq] at h
  simp [h.1, h.2.1, h.2.2.1, h.2.2.2.1]
theorem Bx.cm (x : Bx) : Cm 1 x.e := .tup (Cm.ints (ns := [x.a, x.b, x.c, x.d]))
theorem Bx.cms {bs : List Bx} : ∀ d ∈ bs.map Bx.e, Cm 1 d := fun d hd => by
  obtain ⟨x, _, rfl⟩ := List.mem_map.mp hd
  exact x.cm
end DL
namespace DL
open PySem PySem.Spec PyProof.Rows L2
abbrev Sq := Int × Int
def kq (p : Sq) : List Key := [.inl p.1, .inl p.2]
def dicD (ks : List Sq) : OC := .dt (ks.map kq) ((ks.map fun _ => true).map D.bl)
theorem kq_inj {p q : Sq} : kq p = kq q ↔ p = q := by
  constructor
  · intro h
    simp only [kq, List.cons.injEq, Sum.inl.injEq, and_true] at h
    exact Prod.ext h.1 h.2
  · rintro rfl; rfl
def tT (ks : List Sq) : List (List Key × V) := ks.map fun q => (kq q, V.bl true)
theorem zipT (ks : List Sq) : (ks.map kq).zip ((ks.map fun _ => true).map V.bl) = tT ks := by
  induction ks with
  | nil => rfl
  | cons k ks ih => simp only [List.map_cons, List.zip_cons_cons, ih]; rfl
theorem tT_any (ks : List Sq) (p : Sq) : ((tT ks).any fun kv => decide (kv.1 = kq p)) = decide (p ∈ ks) := by
  induction ks with
  | nil => rfl
  | cons k ks ih =>
    have e : tT (k :: ks) = (kq k, V.bl true) :: tT ks := rfl
    rw [e, List.any_cons, ih, Bool.eq_iff_iff]
    simp only [Bool.or_eq_true, decide_eq_true_eq, List.mem_cons, kq_inj]
    exact or_congr ⟨Eq.symm, Eq.symm⟩ Iff.rfl
theorem tT_val (ks : List Sq) (p : Sq) : (valV (tT ks) (kq p)).isSome = decide (p ∈ ks) := by
  rw [← valV_any, tT_any]
theorem dr_dic {K : PySem.W.Frag} {H0 : Hp} {ks : List Sq} {v : V} (h : DR K H0 (dicD ks).d v) : ∃ a, v = .ref a ∧ Rd H0 a (.dT (tT ks)) := by
  obtain ⟨a, vs, rfl, h1, hl, r⟩ := h
  rw [DRs.bls r, zipT] at h1
  exact ⟨a, rfl, h1⟩
section
variable {X : Cx} {ρ : En} {Φ : Out → Prop} {pos : Pos}
/-- square in d -/
theorem op_inSq (hu : X.A.units + 1 < cLine) : OpR X (compareOp .In) (fun x y H Q => ∃ (a b : Addr) (kvs : List (List Key × V)) (k : List Key), x = .ref b ∧ y = .ref a ∧ Rd H a (.dT kvs) ∧ SqT X.K H b (k.map kV) ∧ Q (.bl (valV kvs k).isSome) H) := by
  rintro pins s σ H x y v u Q I rx ry ⟨a, b, kvs, k, rfl, rfl, h1, h2, q⟩
  cases (show v = Value.ref b from rx); cases (show u = Value.ref a from ry)
  obtain ⟨z, hd, xs, rel, dd⟩ := dt_rd I.hok h1
  obtain ⟨its, r, ⟨o, e, c, n, dat⟩, _⟩ := I.tuple h2
  refine wpAny_in_heap (tupleKind_room_in1 hu) (k := k) ⟨o, its.toArray, n, e, c, dat, by simpa using items_are r⟩ hd dd ?_
  have qq := (rel.val k).isSome_eq
  rw [Option.isSome_map] at qq
  rw [← qq]
  exact ⟨.bl (valV kvs k).isSome, H, I.tok _, rfl, q⟩
theorem c2_inSq {p1 p2 : Int} {ks : List Sq} (hu : X.A.units + 64 < cLine) : C2 X .In (.tup [.int p1, .int p2]) (dicD ks).d (.bl (decide ((p1, p2) ∈ ks))) := ⟨_, op_inSq (by omega), fun H0 H x y Q s r1 r2 kk => by
  obtain ⟨b, vs, rfl, h1, r⟩ := r1
  obtain ⟨v, w, rfl, e1, e2⟩ := r.two
  cases (show v = .int p1 from e1); cases (show w = .int p2 from e2)
  obtain ⟨a, rfl, h2⟩ := dr_dic r2
  exact ⟨a, b, _, kq (p1, p2), rfl, rfl, Same.rd s h2, Same.seqT s h1, kk _ H0 H (JH.refl s) (by rw [tT_val]; rfl)⟩⟩
end
end DL
namespace DL
open PySem
def sel3 (p q r m : Int) : Int := if m = 0 then p else if m = 1 then q else r
theorem ix_sel3 {p q r m : Int} (h : 0 ≤ m ∧ m < 3) : IX (.lst [.int p, .int q, .int r]) (.int m) (.int (sel3 p q r m)) := by
  have : m = 0 ∨ m = 1 ∨ m = 2 := by omega
  rcases this with rfl | rfl | rfl
  · exact IX.l0
  · exact IX.l1
  · exact IX.l2
end DL
namespace DL
open PySem PySem.Spec PyProof.Rows L2
section
variable {X : Cx} {ρ ρ' : En}
/-- z[i], z a text -/
theorem ed_ixS {a b : Expr} {z : Str} {i : Int} {c : Nat} {pos : Pos} (ha : ED X ρ a (.str z)) (hb : ED X ρ b (.int i)) (hz : z.length ≤ sizeLine) (h : atI z.cps.toList i = some c) (hs : PlainIx b := by exact fun _ _ => rfl) : ED X ρ (.Subscript a b pos) (.str ⟨#[c]⟩) := fun B0 B σ H0 H Q j kk => by
  refine RE.of (pe_ix ix_str pe_star pe_star hs) (ha B0 B σ H0 H _ j fun x G0 G g1 r1 => hb B0 B σ G0 G _ (j.grow g1) fun y L0 L g2 r2 => ?_)
  exact ⟨z, i, c, r1, r2, hz, h, kk _ L0 L (g1.trans g2) rfl⟩
theorem DG.mono {is is' : List Nat} {tg : Expr} {d : D} (h : DG X is tg d ρ ρ') (hi : ∀ k ∈ is, k ∈ is') : DG X is' tg d ρ ρ' := fun B0 B σ H0 H v Q j r k =>
  h B0 B σ H0 H v Q j r fun σ' j' off => k σ' j' fun m hm => off m fun z => hm (hi m z)
end
end DL
namespace DL
open PySem L2
def tI (t : List Int) : D := .tup (t.map .int)
def ltr : Str := "abcdefghijklmnopqrstuvwxyz"
def tls : List Str := ["", "1", "n2", "ab", "z9", "q0q"]
theorem ltr_len : ltr.cps.toList.length = 26 := by decide +kernel
theorem at_ltr {i : Int} (h0 : 0 ≤ i) (h1 : i < 26) : atI ltr.cps.toList i = some (ltr.cps.toList.getD i.toNat 0) := by
  refine atI_nn h0 ?_
  have : i.toNat < ltr.cps.toList.length := by rw [ltr_len]; omega
  rw [List.getD_eq_getElem?_getD, List.getElem?_eq_getElem this]; rfl
theorem at_tls {i : Int} (h0 : 0 ≤ i) (h1 : i < 6) : atI (tls.map D.str) i = some (.str (tls.getD i.toNat "")) := by
  refine atI_nn h0 ?_
  have : i.toNat < tls.length := by show i.toNat < 6; omega
  rw [List.getElem?_map, List.getD_eq_getElem?_getD, List.getElem?_eq_getElem this]; rfl
theorem tls_len (i : Nat) : (tls.getD i "").length ≤ 3 := by
  match i with
  | 0 => decide +kernel
  | 1 => decide +kernel
  | 2 => decide +kernel
  | 3 => decide +kernel
  | 4 => decide +kernel
  | 5 => decide +kernel
  | i + 6 => 
    rw [List.getD_eq_getElem?_getD, List.getElem?_eq_none (by show 6 ≤ i + 6; omega)]
    decide +kernel
def nmOf (d : Int) : Str := (⟨#[ltr.cps.toList.getD (d % 26).toNat 0]⟩ : Str) ++ tls.getD (d / 26 % 6).toNat ""
end DL
namespace DL
open PySem PySem.Spec PyProof.Rows L2
/-- c stands at a, and some slot owns it -/
structure Cell (ρ : En) (a : Addr) (c : OC) : Prop where
  ex : ∃ (i : Nat) (cs : List (Addr × OC)) (d : D), ρ[i]? = some (.ox cs d) ∧ (a, c) ∈ cs
section
variable {K : PySem.W.Frag} {B0 B H0 H : Hp} {σ : L2.St} {ρ : En}
theorem J.at (j : J K B0 B σ H0 H ρ) {a : Addr} {c : OC} (h : Cell ρ a c) : ∃ o, H a = some o ∧ H0 a = none ∧ B a = none ∧ OCR K H0 c o := by
  obtain ⟨i, cs, d, h1, h2⟩ := h.ex
  exact j.cell h1 h2
end
section
variable {X : Cx} {ρ : En} {Φ : Out → Prop} {e a b : Expr} {pos : Pos} {d : D} {rest : List Stmt}
theorem ed_lenO (m : Nat) {x : Str} {p1 p2 : Pos} {ds : List D} (hρ : ρ[m]? = some (.ow (.lst ds))) (hg : Gl X "len") (hm : X.mg "len" = none) (hN : X.N[m]? = some x := by rfl) (hv : Vis X.env.scope x := by first | exact Or.inl rfl | exact Or.inr (Or.inl rfl) | exact Or.inr (Or.inr rfl)) (hd : (x == ("__debug__" : Str)) = false := by decide)
    (hcd : (x == ("__classdict__" : Str)) = false := by decide)
    (he : starEach [.Name x p2] X.env = (false, eval (.Name x p2) X.env) :: starEach [] X.env := by rfl) (hpl : (backTo pos (starEach [] X.env)).any (·.1) = false := by rfl) : ED X ρ (.Call (.Name "len" p1) [.Name x p2] [] pos) (.int ds.length) := fun B0 B σ H0 H Q j kk => by
  obtain ⟨ov, e0, p, o, rfl, h1, h2, h3, vs, rfl, r⟩ := j.get hρ
  refine RE.of (pe_callB call_len_seq hg hm bb_len (pa_cons (pe_var hN hv hd hcd) pa_nil he) (by decide) (by decide) he hpl) ⟨_, e0, p, vs, rfl, .inl (SqL.of h1), by rw [← DRs.length r]; exact kk _ H0 H (JH.refl j.same) rfl⟩
/-- the truth of a list that a slot owns -/
theorem td_truthO (m : Nat) {x : Str} {p1 : Pos} {ds : List D} (hρ : ρ[m]? = some (.ow (.lst ds))) (hN : X.N[m]? = some x := by rfl) (hv : Vis X.env.scope x := by first | exact Or.inl rfl | exact Or.inr (Or.inl rfl) | exact Or.inr (Or.inr rfl)) (hd : (x == ("__debug__" : Str)) = false := by decide)
    (hcd : (x == ("__classdict__" : Str)) = false := by decide) (he : ∀ whole, isTrue (.Name x p1) X.env whole = (do let v ← whole; standAt (Expr.pos (.Name x p1)); holding [v] (truthy v)) := by intro _; rfl) : TD X ρ (.Name x p1) (!ds.isEmpty) := fun B0 B σ H0 H Q j kk => by
  obtain ⟨ov, e0, p, o, rfl, h1, h2, h3, vs, rfl, r⟩ := j.get hρ
  exact RT.of (pt_truth (pe_var hN hv hd hcd) he) ⟨_, e0, _, .inl ⟨vs, SqL.of h1, rfl⟩, by rw [r.emp]; exact kk H0 H (JH.refl j.same)⟩
end
end DL
namespace DL
abbrev Seg (α : Type) := Int × Int × α
section
variable {α : Type} [DecidableEq α] {e : α}
def segVal (e : α) : List (Seg α) → Int → α
  | [], _ => e
  | s :: t, y => if s.1 ≤ y ∧ y < s.2.1 then s.2.2 else segVal e t y
/-- one behind the other, not to be made one -/
def link (s s' : Seg α) : Prop := s.2.1 ≤ s'.1 ∧ (s.2.1 = s'.1 → s.2.2 ≠ s'.2.2)
def okS (e : α) (s : Seg α) : Prop := s.1 < s.2.1 ∧ s.2.2 ≠ e
inductive Can (e : α) : List (Seg α) → Prop where
  | nil : Can e []
  | one {s} (h : okS e s) : Can e [s]
  | cons {s s' t} (h : okS e s) (hl : link s s') (ht : Can e (s' :: t)) : Can e (s :: s' :: t)
theorem Can.head {s : Seg α} {t : List (Seg α)} (h : Can e (s :: t)) : okS e s := by
  cases h with
  | one h => exact h
  | cons h _ _ => exact h
theorem Can.tail {s : Seg α} {t : List (Seg α)} (h : Can e (s :: t)) : Can e t := by
  cases h with
  | one h => exact .nil
  | cons _ _ h => exact h
theorem Can.ok {l : List (Seg α)} (h : Can e l) : ∀ p ∈ l, okS e p := by
  induction l with
  | nil => intro p hp; simp at hp
  | cons s t ih =>
    intro p hp
    rcases List.mem_cons.mp hp with rfl | hp
    · exact h.head
    · exact ih h.tail p hp
end
end DL
namespace DL
abbrev Asc (es : List Int) : Prop := es.Pairwise (· < ·)
def par (es : List Int) : Bool := decide (es.length % 2 = 1)
structure EOk (es : List Int) : Prop where
  asc : Asc es
  even : es.length % 2 = 0
theorem EOk.par {es : List Int} (h : EOk es) : par es = false := by
  unfold DL.par
  rw [decide_eq_false]
  have := h.even
  omega
theorem eok_nil : EOk [] := ⟨List.Pairwise.nil, rfl⟩
end DL
namespace DL
open PySem PySem.Spec PyProof.Rows L2
theorem perm_srt_eq {α : Type} {r : α → α → Prop} (as : ∀ a b, r a b → r b a → a = b) : ∀ {l m : List α}, l.Perm m → l.Pairwise r → m.Pairwise r → l = m
  | [], m, p, _, _ => (List.Perm.eq_nil p.symm).symm
  | x :: l, [], p, _, _ => absurd p.length_eq (by simp)
  | x :: l, y :: m, p, hl, hm => by
    have e : x = y := by
      rcases List.mem_cons.mp (p.mem_iff.mp List.mem_cons_self) with e | hx
      · exact e
      · rcases List.mem_cons.mp (p.mem_iff.mpr List.mem_cons_self) with e | hy
        · exact e.symm
        · exact as _ _ ((List.pairwise_cons.mp hl).1 _ hy) ((List.pairwise_cons.mp hm).1 _ hx)
    subst e
    rw [perm_srt_eq as p.cons_inv (List.pairwise_cons.mp hl).2 (List.pairwise_cons.mp hm).2]
def srtI (ns : List Int) : List Int := ns.mergeSort (fun a b => decide (a ≤ b))
theorem srtI_perm (ns : List Int) : (srtI ns).Perm ns := List.mergeSort_perm _ _
theorem srtI_srt (ns : List Int) : (srtI ns).Pairwise (· ≤ ·) := by
  have h := List.pairwise_mergeSort (le := fun a b : Int => decide (a ≤ b)) (fun a b c h1 h2 => by simp at *; omega) (fun a b => by simp; omega) ns
  exact h.imp fun h => by simpa using h
theorem srtI_eq {ns ms : List Int} (p : ms.Perm ns) (h : ms.Pairwise (· ≤ ·)) : ms = srtI ns :=
  perm_srt_eq (fun a b h1 h2 => by omega) (p.trans (srtI_perm ns).symm) h (srtI_srt ns)
def LeQ (a b : Sq) : Prop := a.1 < b.1 ∨ (a.1 = b.1 ∧ a.2 ≤ b.2)
instance (a b : Sq) : Decidable (LeQ a b) := by unfold LeQ; infer_instance
/-- v stands for the square q -/
theorem isPair_fun {h : Heap} {v : Value} {x y x' y' : Int} (p : Srt.IsPair h v x y) (q : Srt.IsPair h v x' y') : x = x' ∧ y = y' := by
  obtain ⟨a, o, t, u, n, e, ho, hc, hd⟩ := p
  obtain ⟨a', o', t', u', n', e', ho', hc', hd'⟩ := q
  rw [e] at e'; cases e'
  rw [ho] at ho'; cases ho'
  rw [hd] at hd'
  injection hd' with h1 h2
  have h3 := congrArg Array.toList h1
  simp at h3
  exact ⟨h3.1.1, h3.2.1⟩
open Classical in
noncomputable def pairOf (h : Heap) (v : Value) : Sq := if p : ∃ q : Sq, Srt.IsPair h v q.1 q.2 then p.choose else (0, 0)
theorem pairOf_eq {h : Heap} {v : Value} {q : Sq} (p : Srt.IsPair h v q.1 q.2) : pairOf h v = q := by
  have hp : ∃ q : Sq, Srt.IsPair h v q.1 q.2 := ⟨q, p⟩
  unfold pairOf
  rw [dif_pos hp]
  have := isPair_fun hp.choose_spec p
  exact Prod.ext this.1 this.2
inductive All2 {α β : Type} (r : α → β → Prop) : List α → List β → Prop where
  | nil : All2 r [] []
  | cons {a b as bs} (h : r a b) (t : All2 r as bs) : All2 r (a :: as) (b :: bs)
theorem All2.len {α β : Type} {r : α → β → Prop} {as : List α} {bs : List β} (h : All2 r as bs) : as.length = bs.length := by
  induction h with
  | nil => rfl
  | cons _ _ ih => simp [ih]
theorem All2.imp {α β : Type} {r q : α → β → Prop} {as : List α} {bs : List β} (h : All2 r as bs) (i : ∀ a b, r a b → q a b) : All2 q as bs := by
  induction h with
  | nil => exact .nil
  | cons h _ ih => exact .cons (i _ _ h) ih
theorem All2.get {α β : Type} {r : α → β → Prop} : ∀ {as : List α} {bs : List β} {j : Nat} {a : α} {b : β}, All2 r as bs → as[j]? = some a → bs[j]? = some b → r a b
  | _, _, j, _, _, .nil, h, _ => by simp at h
  | _, _, 0, _, _, .cons h t, h1, h2 => by simp at h1 h2; subst h1 h2; exact h
  | _, _, j + 1, _, _, .cons h t, h1, h2 => All2.get (j := j) t (by simpa using h1) (by simpa using h2)
theorem pairs_of {h : Heap} {vs : List Value} {ks : List Sq} (a : All2 (fun v q => Srt.IsPair h v q.1 q.2) vs ks) : vs.map (pairOf h) = ks ∧ ∀ v ∈ vs, Srt.IsPair h v (pairOf h v).1 (pairOf h v).2 := by
  induction a with
  | nil => exact ⟨rfl, by simp⟩
  | cons h t ih =>
    have e := pairOf_eq h
    refine ⟨by rw [List.map_cons, e, ih.1], fun v hv => ?_⟩
    rcases List.mem_cons.mp hv with rfl | hv
    · rw [e]; exact h
    · exact ih.2 v hv
section
variable {X : Cx}
theorem bo_sortedI {ns : List Int} : BO X (.builtin "sorted") [.lst (ns.map D.int)] (.lst ((srtI ns).map D.int)) := ⟨_, cr_sortedI, fun H0 H vs Q s r k => by
  obtain ⟨x, rfl, a, ys, rfl, h1, h2⟩ := r.one'
  rw [DRs.ints h2] at h1
  refine ⟨a, ns, rfl, s.seq h1, fun zs p hz1 hz2 hp => ?_⟩
  rw [srtI_eq hz1 hz2]
  exact k p _ _ _ (JH.own s hp) upd_same (s.free hp) hp ⟨_, rfl, DRs.ofInts _⟩⟩
end
end DL
namespace DL
abbrev Row := Seg (List Int)
structure ROk (R : List Row) : Prop where
  can : Can [] R
  ed : ∀ p ∈ R, EOk p.2.2
def rowAt (R : List Row) (y : Int) : List Int := segVal [] R y
theorem segVal_mem {α : Type} {e : α} : ∀ {l : List (Seg α)} {y : Int}, segVal e l y = e ∨ ∃ p ∈ l, p.1 ≤ y ∧ y < p.2.1 ∧ p.2.2 = segVal e l y
  | [], y => .inl rfl
  | s :: t, y => by
    unfold segVal
    by_cases h : s.1 ≤ y ∧ y < s.2.1
    · rw [if_pos h]; exact .inr ⟨s, List.mem_cons_self, h.1, h.2, rfl⟩
    · rw [if_neg h]
      rcases segVal_mem (e := e) (l := t) (y := y) with h | ⟨p, h1, h2⟩
      · exact .inl h
      · exact .inr ⟨p, List.mem_cons_of_mem _ h1, h2⟩
theorem ROk.row {R : List Row} (h : ROk R) (y : Int) : EOk (rowAt R y) := by
  rcases segVal_mem (e := ([] : List Int)) (l := R) (y := y) with e | ⟨p, h1, _, _, e⟩
  · unfold rowAt; rw [e]; exact eok_nil
  · unfold rowAt; rw [← e]; exact h.ed p h1
end DL
namespace DL
open PySem PySem.Spec PyProof.Rows L2
/-- a set just made -/
abbrev nSet (w : World) : Obj := { cls := .type "set", dict := none, data := .set #[] 0 (.fresh 0 0 (!w.params.followText "set-order")) }
end DL
namespace DL
open PySem PySem.Spec PyProof.Rows L2
open PySem.W (EachIs AllAlike Sortable KeepsBut SortsAt KeyedOut dataLe dataKind alike)
theorem each_all2 {α β : Type} {R : α → β → Prop} : ∀ {as : List α} {bs : List β}, All2 R as bs → EachIs R as bs
  | _, _, .nil => .nil
  | _, _, .cons h t => .cons h (each_all2 t)
/-- a value that stands for data -/
def VD (K : PySem.W.Frag) (H : Hp) (u : Value) (d : D) : Prop := ∃ v, RelV v u ∧ DR K H d v
theorem vd_to {K : PySem.W.Frag} {H : Hp} : ∀ {ds : List D} {us : List Value}, All2 (VD K H) us ds → ∃ vs, Vals vs us ∧ DRs K H ds vs
  | _, _, .nil => ⟨[], .nil, rfl⟩
  | _, _, .cons ⟨v, r1, h1⟩ t => by
    obtain ⟨vs, r2, h2⟩ := vd_to t
    exact ⟨v :: vs, .cons r1 r2, v, vs, rfl, h1, h2⟩
section
variable {X : Cx} {pins : List (Addr × Obj)} {σ : L2.St} {H : Hp} {s : Shared} {β : Type} {bs : List β} {enc kd : β → D} {R : List D → D → Prop} {k : Nat} {f : Addr}
noncomputable def srtK (kd : β → D) (bs : List β) : List β := bs.mergeSort (dataLe false fun b => (kd b).py)
theorem srtK_perm (kd : β → D) (bs : List β) : (srtK kd bs).Perm bs := List.mergeSort_perm _ _
/-- keys that can be compared -/
structure KeyOk (A : Around) (kd : β → D) (bs : List β) : Prop where
  plain : ∀ b ∈ bs, (kd b).plain = true
  alike : AllAlike (bs.map fun b => (kd b).py)
  sort : Sortable (bs.map fun b => (kd b).py)
  deep : ∀ b ∈ bs, A.units + 1 + 1 + (kd b).py.depth < cLine
theorem reads_vd (I : Inv X pins σ H s) {H0 : Hp} (s0 : Same H0 H) {u : Value} {d : D} (p : d.plain = true) (h : VD X.K H0 u d) : ∃ as, Reads s.heap u d.py as := by
  obtain ⟨v, r, h⟩ := h
  exact Dp.reads I d.py v u (DR.dp _ _ p (DR.mono s0 _ _ h)) r
variable {ρ : En}
/-- a list or a tuple -/
inductive SeqD : D → List D → Prop where
  | lst (ds) : SeqD (.lst ds) ds
  | tup (ds) : SeqD (.tup ds) ds
theorem id_seq {tg e : Expr} {d : D} {ds : List D} (h : SeqD d ds) (he : ED X ρ e d) : ID X ρ tg e ds := by
  cases h with
  | lst => exact id_list he
  | tup => exact id_tup he
end
end DL
namespace DL
open PySem PySem.Spec PyProof.Rows L2
section
variable {X : Cx} {ρ : En} {a b : Expr} {pos : Pos}
theorem op_catL : OpR X (binaryOp .Add) (fun x y H Q => ∃ (l m : Addr) (xs zs : List V), x = .ref l ∧ y = .ref m ∧ SqL X.K H l xs ∧ SqL X.K H m zs ∧ xs.length + zs.length ≤ sizeLine ∧ ∀ p, H p = none → Q (.ref p) (upd H p (.lst (xs ++ zs)))) := by
  intro pins s σ H x y v u Q I rx ry h
  obtain ⟨l, m, xs, zs, rfl, rfl, h1, h2, hz, q⟩ := h
  cases rx
  cases ry
  obtain ⟨its, r1, ⟨⟨c1, d1, t1, s1⟩, n1, o1, e1, _, f1⟩, _⟩ := I.list h1
  obtain ⟨jts, r2, ⟨⟨c2, d2, t2, s2⟩, n2, o2, e2, _, f2⟩, _⟩ := I.list h2
  simp only at e1 f1 e2 f2
  subst e1 f1 e2 f2
  have hl : its.length + jts.length ≤ sizeLine := by rw [← r1.length, ← r2.length]; exact hz
  refine concat_meets ⟨_, o1, rfl⟩ ⟨_, o2, rfl⟩ noFill_list_add seq_list_add PySem.F.slot_list_add PySem.F.entry_list_add (PySem.F.args_list_add_2 _ _) (list_addW l m its.toArray jts.toArray n1 n2 d1 d2 s1 s2 (by simpa using hl)) ⟨o1, o2, ?_⟩
  have ea : its.toArray ++ jts.toArray = (its ++ jts).toArray := by simp
  rw [ea]
  exact ⟨.ref _, _, I.lnew (t' := s.toks) (r1.append r2) (by rw [List.length_append]; omega), rfl, q _ I.fresh⟩
/-- a + b, lists -/
theorem eo_cat {ds es : List D} (ha : ED X ρ a (.lst ds)) (hb : ED X ρ b (.lst es)) (hl : ds.length + es.length ≤ sizeLine) : EO X ρ (.BinOp a .Add b pos) (.lst (ds ++ es)) := fun B0 B σ H0 H Q j k =>
  RE.of (pe_op op_catL pe_star pe_star) (ha B0 B σ H0 H _ j fun x G0 G g1 r1 => hb B0 B σ G0 G _ (j.grow g1) fun y L0 L g2 r2 => by
    obtain ⟨p, vs, rfl, h1, h2⟩ := DR.mono g2.s0 _ _ r1
    obtain ⟨q, ws, rfl, h3, h4⟩ := r2
    exact ⟨p, q, vs, ws, rfl, rfl, g2.sh.seq h1, g2.sh.seq h3, by rw [← DRs.length h2, ← DRs.length h4]; exact hl, fun z hz => k z _ L0 _ ((g1.trans g2).trans (JH.own g2.sh hz)) upd_same (g2.sh.free hz) ((g1.trans g2).sB.free hz) ⟨_, rfl, DRs.app h2 h4⟩⟩)
end
end DL
namespace DL
open PySem PySem.Spec PyProof.Rows L2
section
variable {X : Cx} {ρ : En} {pos : Pos} {a b e : Expr}
theorem op_notInSq (hu : X.A.units + 1 < cLine) : OpR X (compareOp .NotIn) (fun x y H Q => ∃ (a b : Addr) (kvs : List (List Key × V)) (k : List Key), x = .ref b ∧ y = .ref a ∧ Rd H a (.dT kvs) ∧ SqT X.K H b (k.map kV) ∧ Q (.bl (!(valV kvs k).isSome)) H) := by
  rintro pins s σ H x y v u Q I rx ry ⟨a, b, kvs, k, rfl, rfl, h1, h2, q⟩
  cases (show v = Value.ref b from rx); cases (show u = Value.ref a from ry)
  obtain ⟨z, hd, xs, rel, dd⟩ := dt_rd I.hok h1
  obtain ⟨its, r, ⟨o, e, c, n, dat⟩, _⟩ := I.tuple h2
  refine wpAny_notIn_heap (tupleKind_room_in1 hu) (k := k) ⟨o, its.toArray, n, e, c, dat, by simpa using items_are r⟩ hd dd ?_
  have qq := (rel.val k).isSome_eq
  rw [Option.isSome_map] at qq
  rw [← qq]
  exact ⟨.bl (!(valV kvs k).isSome), H, I.tok _, rfl, q⟩
theorem bx_inj {l m : List Bx} : l.map Bx.e = m.map Bx.e ↔ l = m := List.map_inj_right (f := Bx.e) (fun a b e => Bx.inj e)
theorem c2_eqBx {l m : List Bx} (hu : X.A.units + 64 < cLine) : C2 X .Eq (.tup (l.map Bx.e)) (.tup (m.map Bx.e)) (.bl (decide (l = m))) :=
  c2_eqC (n := 2) (m := 2) hu (.tup Bx.cms) (.tup Bx.cms) (by simp [bx_inj])
theorem c2_neBx {l m : List Bx} (hu : X.A.units + 64 < cLine) : C2 X .NotEq (.tup (l.map Bx.e)) (.tup (m.map Bx.e)) (.bl (!decide (l = m))) :=
  c2_neC (n := 2) (m := 2) hu (.tup Bx.cms) (.tup Bx.cms) (by simp [bx_inj])
end
end DL
namespace DL
open PySem PySem.Spec PyProof.Rows L2
/-- what the top says of a class: cn its name, fs its fields -/
structure Kl (K : PySem.W.Frag) (mg : Str → Option Value) (cn : Str) (fs : List Str) : Prop where
  ex : ∃ C, PySem.W.nsIn K mainGlobals cn = some (some (.ref C)) ∧ mg cn = some (.ref C) ∧ C8.InsC K C ∧ PySem.W.keepIn K (.ref C) = true ∧ ∀ f ∈ fs, NoAttr K C f
theorem kit_self {K : PySem.W.Frag} {C : Addr} : PySem.W.kitOne K (.ref C) (.ref C) = some true := by
  unfold PySem.W.kitOne
  exact if_pos (by first | rfl | simp | decide)
theorem zip_at {f : Str} : ∀ {ns : List Str} {vs : List V} {i : Nat} {v : V}, ns[i]? = some f → (ns.take i).contains f = false → vs[i]? = some v → (ns.zip vs).lookup f = some v
  | n :: ns, w :: vs, 0, v, h1, _, h3 => by
    simp only [List.getElem?_cons_zero, Option.some.injEq] at h1 h3
    subst h1; subst h3
    simp [List.lookup_cons]
  | n :: ns, w :: vs, i + 1, v, h1, h2, h3 => by
    simp only [List.getElem?_cons_succ] at h1 h3
    rw [List.take_succ_cons, List.contains_cons, Bool.or_eq_false_iff] at h2
    rw [List.zip_cons_cons, List.lookup_cons]
    rw [h2.1]
    exact zip_at h1 h2.2 h3
  | [], vs, i, v, h1, _, _ => by simp at h1
  | n :: ns, [], i, v, _, _, h3 => by simp at h3
theorem putF_new {f : Str} {y : V} : ∀ {ns : List Str} {vs : List V}, ns.contains f = false → ns.length = vs.length → putF f y (ns.zip vs) = (ns ++ [f]).zip (vs ++ [y])
  | [], [], _, _ => rfl
  | n :: ns, v :: vs, h, hl => by
    rw [List.contains_cons, Bool.or_eq_false_iff] at h
    have hne : ¬ (n = f) := fun e => by rw [e] at h; simp at h
    show (if n = f then _ else (n, v) :: putF f y (ns.zip vs)) = _
    rw [if_neg hne, putF_new h.2 (by simpa using hl)]
    rfl
  | [], v :: vs, _, hl => by simp at hl
  | n :: ns, [], _, hl => by simp at hl
section
variable {X : Cx} {ρ : En} {e : Expr} {pos : Pos} {cn f : Str} {ns fs : List Str} {ds : List D} {d : D}
/-- e.f, e an instance that is shared -/
theorem ed_fld (i : Nat) (kl : Kl X.K X.mg cn fs) (he : ED X ρ e (.obj cn ns ds)) (hn : ns[i]? = some f := by rfl) (hd : ds[i]? = some d := by rfl) (hu : (ns.take i).contains f = false := by decide +kernel) (hf : f ∈ fs := by decide +kernel)
    (hb : attributeBase e f X.env (eval e X.env) = eval e X.env := by rfl) : ED X ρ (.Attribute e f pos) d := fun B0 B σ H0 H Q j k => by
  refine RE.of (pe_fld pe_star hb) (he B0 B σ H0 H _ j fun v G0 G g r => ?_)
  obtain ⟨a, C, dx, vs, rfl, hC, ha, hlen, hvs⟩ := r
  obtain ⟨C', hC', hm, hc, hk, hna⟩ := kl.ex
  rw [hC] at hC'; cases hC'
  obtain ⟨v, hv, rv⟩ := DRs.get hvs hd
  exact ⟨a, C, dx, _, v, rfl, g.sh _ _ ha, hc.cl, hna f hf, zip_at hn hu hv, k v G0 G g rv⟩
/-- e.f, e the instance that slot s holds as its own -/
theorem ed_fldO (s i : Nat) {a : Addr} {x : Str} {p : Pos} (kl : Kl X.K X.mg cn fs) (hρ : ρ[s]? = some (.ox [(a, .ins cn ns ds)] (.ad a))) (hn : ns[i]? = some f := by rfl) (hd : ds[i]? = some d := by rfl) (hu : (ns.take i).contains f = false := by decide +kernel) (hf : f ∈ fs := by decide +kernel)
    (hN : X.N[s]? = some x := by rfl) (hv : Vis X.env.scope x := by first | exact Or.inl rfl | exact Or.inr (Or.inl rfl) | exact Or.inr (Or.inr rfl)) (hdb : (x == ("__debug__" : Str)) = false := by decide) (hcd : (x == ("__classdict__" : Str)) = false := by decide)
    (hb : attributeBase (.Name x p) f X.env (eval (.Name x p) X.env) = eval (.Name x p) X.env := by rfl) : ED X ρ (.Attribute (.Name x p) f pos) d := fun B0 B σ H0 H Q j k => by
  obtain ⟨ov, e1, ⟨v, rfl, rv⟩, hcs, _⟩ := j.get hρ
  cases (show v = .ref a from rv)
  obtain ⟨o, h1, h2, h3, h4⟩ := (hcs _ (List.mem_singleton_self _)).ex
  obtain ⟨vs, C, dx, rfl, hC, hlen, hvs⟩ := h4
  obtain ⟨C', hC', hm, hc, hk, hna⟩ := kl.ex
  rw [hC] at hC'; cases hC'
  obtain ⟨v, hv', rv⟩ := DRs.get hvs hd
  exact RE.of (pe_fld (pe_var hN hv hdb hcd) hb) ⟨_, e1, a, C, dx, _, v, rfl, h1, hc.cl, hna f hf, zip_at hn hu hv', k v H0 H (JH.refl j.same) rv⟩
/-- self.f = e, a new field -/
theorem ws_setF (s : Nat) {a : Addr} {x : Str} {p pos' : Pos} {value : Expr} {Φ : Out → Prop} (kl : Kl X.K X.mg cn fs) (hρ : ρ[s]? = some (.ox [(a, .ins cn ns ds)] (.ad a))) (hv : ED X ρ value d) (hΦ : Φ (.nx (ρ.set s (.ox [(a, .ins cn (ns ++ [f]) (ds ++ [d]))] (.ad a)))))
    (hnew : ns.contains f = false := by decide +kernel) (hf : f ∈ fs := by decide +kernel) (hlt : ns.length < 1000 := by decide)
    (hN : X.N[s]? = some x := by rfl) (hvis : Vis X.env.scope x := by first | exact Or.inl rfl | exact Or.inr (Or.inl rfl) | exact Or.inr (Or.inr rfl)) (hdb : (x == ("__debug__" : Str)) = false := by decide) (hcd : (x == ("__classdict__" : Str)) = false := by decide)
    (hs : swapsWith value (some (.Attribute (.Name x p) f pos')) pos.line X.env = pure false := by rfl) : WS X (.Assign [.Attribute (.Name x p) f pos'] value pos) ρ Φ := fun B0 B σ H0 H Dn j k => by
  refine ⟨_, ps_fld (pe_var hN hvis hdb hcd) pe_star hs, hv B0 B σ H0 H _ j fun v G0 G g r => ?_⟩
  have j1 := j.grow g
  obtain ⟨ov, e1, ⟨v1, rfl, rv⟩, hcs, _⟩ := j1.get hρ
  cases (show v1 = .ref a from rv)
  obtain ⟨o, h1, h2, h3, h4⟩ := (hcs _ (List.mem_singleton_self _)).ex
  obtain ⟨vs, C, dx, rfl, hC, hlen, hvs⟩ := h4
  obtain ⟨C', hC', hm, hc, hk, hna⟩ := kl.ex
  rw [hC] at hC'; cases hC'
  have hl : (ns.zip vs).length < 1000 := by rw [List.length_zip]; omega
  refine ⟨_, e1, a, C, dx, _, rfl, h1, hc.cl, hna f hf, hl, ?_⟩
  rw [putF_new hnew hlen]
  have j2 := j1.put (c' := .ins cn (ns ++ [f]) (ds ++ [d])) (o := .ins C dx ((ns ++ [f]).zip (vs ++ [v]))) hρ (List.mem_singleton_self _) ⟨vs ++ [v], C, dx, rfl, hC, by simp [hlen], DRs.app hvs (DRs.one r)⟩
  have e : putC [(a, OC.ins cn ns ds)] a (.ins cn (ns ++ [f]) (ds ++ [d])) = [(a, .ins cn (ns ++ [f]) (ds ++ [d]))] := by simp [putC]
  rw [e] at j2
  exact k _ hΦ _ _ _ j2
/-- isinstance(e, C), e an instance of C -/
theorem ed_isC {p1 p2 : Pos} (kl : Kl X.K X.mg cn fs) (hg : Gl X "isinstance") (hm : X.mg "isinstance" = none) (hgc : Gl X cn) (he : ED X ρ e (.obj cn ns ds))
    (hdc : (cn == ("__debug__" : Str)) = false := by decide +kernel)
    (h1 : starEach [e, .Name cn p2] X.env = (false, eval e X.env) :: starEach [.Name cn p2] X.env := by rfl) (h2 : starEach [.Name cn p2] X.env = (false, eval (.Name cn p2) X.env) :: starEach [] X.env := by rfl) (h3 : (backTo pos (starEach [.Name cn p2] X.env)).any (·.1) = false := by rfl) :
    ED X ρ (.Call (.Name "isinstance" p1) [e, .Name cn p2] [] pos) (.bl true) := fun B0 B σ H0 H Q j k => by
  obtain ⟨C', hC', hmc, hc, hk, hna⟩ := kl.ex
  refine RE.of (pe_callB (C8.call_isC hc) hg hm bb_isinstance (pa_cons pe_star (pa_cons (pe_glob (v := .ref C') hgc hmc rfl hdc) pa_nil h2) h1) (by decide) (by decide) h1 h3) (he B0 B σ H0 H _ j fun v G0 G g r => ?_)
  obtain ⟨a, C, dx, vs, rfl, hC, ha, hlen, hvs⟩ := r
  rw [hC] at hC'; cases hC'
  exact ⟨a, dx, _, rfl, g.sh _ _ ha, k _ G0 G g rfl⟩
end
/-- a heap without a -/
def er (H : Hp) (a : Addr) : Hp := fun b => if b = a then none else H b
theorem er_same {H : Hp} {a : Addr} : er H a a = none := if_pos rfl
theorem er_ne {H : Hp} {a b : Addr} (h : b ≠ a) : er H a b = H b := if_neg h
theorem er_sub {H : Hp} {a : Addr} : Same (er H a) H := fun b u e => by
  by_cases h : b = a
  · subst h; rw [er_same] at e; cases e
  · rwa [er_ne h] at e
/-- __init__'s promise: R of the arguments, the fields' names, the fields -/
def spI (K : PySem.W.Frag) (cn : Str) (R : List D → List Str → List D → Prop) : Sp := fun vs H Q _ => ∃ H0 a C dx ds ns es ws, vs = .ref a :: ws ∧ PySem.W.nsIn K mainGlobals cn = some (some (.ref C)) ∧ Same H0 H ∧ H a = some (.ins C dx []) ∧ H0 a = none ∧ DRs K H0 ds ws ∧ R ds ns es ∧
  ∀ H0' H' o, JH H0 (er H a) H0' H' → H' a = some o → H0' a = none → OCR K H0' (.ins cn ns es) o → Q .non H'
def enI (N : List Str) (a : Addr) (cn : Str) (ds : List D) : En := .ox [(a, .ins cn [] [])] (.ad a) :: (ds.map Sl.sh ++ List.replicate (N.length - (ds.length + 1)) Sl.no)
section
variable {P : Program} {w : World} {K : PySem.W.Frag} {mg : Str → Option Value} {base : Heap}
theorem j_startI {N : List Str} {H0 H : Hp} {a C dx : Addr} {cn : Str} {ds : List D} {vs : List V} (s : Same H0 H) (hC : PySem.W.nsIn K mainGlobals cn = some (some (.ref C))) (ha : H a = some (.ins C dx [])) (h0 : H0 a = none) (r : DRs K H0 ds vs) (hl : ds.length + 1 ≤ N.length) : J K H0 (er H a) (L2.start N (.ref a :: vs)) H0 H (enI N a cn ds) := by
  have hlen := DRs.length r
  have kind : ∀ (i : Nat) s, (enI N a cn ds)[i]? = some s → i = 0 ∨ s = .no ∨ ∃ d, s = .sh d := fun i s h => by
    cases i with
    | zero => exact .inl rfl
    | succ i =>
      refine .inr ?_
      unfold enI at h
      rw [List.getElem?_cons_succ] at h
      by_cases hi : i < ds.length
      · rw [List.getElem?_append_left (by simpa using hi), List.getElem?_map, show ds[i]? = some ds[i] by simp [hi]] at h
        cases h; exact .inr ⟨_, rfl⟩
      · rw [List.getElem?_append_right (by simp; omega), List.getElem?_replicate] at h
        split at h
        · cases h; exact .inl rfl
        · cases h
  refine ⟨⟨Same.refl _, s, er_sub, fun b o e _ h => h⟩, by simp [L2.start, enI, hlen], fun i sl ov h1 h2 => ?_, fun i j s1 s2 o1 o2 b h1 h2 _ _ w1 w2 => ?_⟩
  · cases i with
    | zero =>
      unfold enI at h1
      unfold L2.start at h2
      simp only [List.getElem?_cons_zero, Option.some.injEq, List.map_cons, List.cons_append] at h1 h2
      subst h1; subst h2
      refine ⟨⟨_, rfl, rfl⟩, fun p hp => ?_, by simp⟩
      rw [List.mem_singleton] at hp; subst hp
      exact ⟨_, ha, h0, er_same, [], C, dx, rfl, hC, rfl, rfl⟩
    | succ i =>
      unfold enI at h1
      unfold L2.start at h2
      simp only [List.getElem?_cons_succ, List.map_cons, List.cons_append] at h1 h2
      by_cases hi : i < ds.length
      · rw [List.getElem?_append_left (by simpa using hi), List.getElem?_map] at h1
        rw [List.getElem?_append_left (by simp; omega), List.getElem?_map] at h2
        obtain ⟨v, e1, e2⟩ := DRs.get r (show ds[i]? = some ds[i] by simp [hi])
        rw [show ds[i]? = some ds[i] by simp [hi]] at h1
        rw [e1] at h2
        cases h1; cases h2
        exact ⟨v, rfl, e2⟩
      · rw [List.getElem?_append_right (by simp; omega), List.getElem?_replicate] at h1
        split at h1
        · cases h1; trivial
        · cases h1
  · rcases kind i s1 h1 with e1 | e1
    · rcases kind j s2 h2 with e2 | e2
      · rw [e1, e2]
      · exact absurd w2 (Owns.none e2 b)
    · exact absurd w1 (Owns.none e1 b)
theorem fn_okI {x qual : Str} {st : Stmt} {f : Addr} {fd : FuncData} {N ps : List Str} {k : Nat} {cn : Str} {R : List D → List Str → List D → Prop} (F : Fun K x qual st f fd) (S : FnScope N ps (defScope st)) (hR : ∀ ds ns es, R ds ns es → ds.length + 1 = ps.length)
    (h : ∀ a ds ns es, R ds ns es → ∀ (cdv : Value) (A : Around) (outer : List Env) (s : Shared) (H : Hp) (E : XK), Room k (A.deeper (envOfC qual (defScope st) s.heap.objs.size f cdv)) →
      WSs (bx P w K mg base N qual st f cdv A outer s H E) (defBody st) (enI N a cn ds) (fun o => ∃ ρ es', o = .nx ρ ∧ ρ[0]? = some (.ox [(a, .ins cn ns es')] (.ad a)) ∧ ∀ H vs, DRs K H es' vs → DRs K H es vs)) : FnOk P w K mg base CX0 (k + 1) f fd ps (spI K cn R) := by
  refine F.ok S (fun vs H Q E hs => ?_) fun cdv A outer s H vs Q E hr hs => ?_
  · obtain ⟨H0, a, C, dx, ds, ns, es, ws, rfl, hC, s0, ha, h0, r, q, _⟩ := hs
    rw [List.length_cons, ← DRs.length r]; exact hR ds ns es q
  · obtain ⟨H0, a, C, dx, ds, ns, es, ws, rfl, hC, s0, ha, h0, r, q, kk⟩ := hs
    have hN : ds.length + 1 ≤ N.length := by
      have h1 := hR ds ns es q
      have h2 := congrArg List.length S.pre
      rw [List.length_take] at h2
      omega
    obtain ⟨t, h1, h2⟩ := h a ds ns es q cdv A outer s H E hr H0 (er H a) (L2.start N (.ref a :: ws)) H0 H (j_startI s0 hC ha h0 r hN) (Dn := { nx := fun _ H' => Q .non H', rt := Q }) fun o ho => by
      obtain ⟨ρ, es', rfl, hρ, hw⟩ := ho
      intro σ G0 G j
      obtain ⟨ov, e1, ⟨v, rfl, rv⟩, hcs, _⟩ := j.get hρ
      obtain ⟨o, g1, g2, g3, g4⟩ := (hcs _ (List.mem_singleton_self _)).ex
      obtain ⟨vs, C', dx', e1, e2, e3, e4⟩ := g4
      exact kk G0 G o j.hp g1 g2 ⟨vs, C', dx', e1, e2, e3, hw _ _ e4⟩
    exact ⟨t, h1, h2⟩
/-- a class that is made by calling it -/
structure FnI (P : Program) (w : World) (K : PySem.W.Frag) (mg : Str → Option Value) (base : Heap) (cn : Str) (k : Nat) (R : List D → List Str → List D → Prop) : Prop where
  ex : ∃ C f fd ps, PySem.W.nsIn K mainGlobals cn = some (some (.ref C)) ∧ mg cn = some (.ref C) ∧ Mk K C f ∧ FnOk P w K mg base CX0 k f fd ps (spI K cn R) ∧ Binds K fd ps []
theorem eo_make {X : Cx} {ρ : En} {e : Expr} {pos : Pos} {cn : Str} {k : Nat} {R : List D → List Str → List D → Prop} {es : List Expr} {ds zs : List D} {ns : List Str} {p : Pos} (G : FnI X.prog X.w X.K X.mg X.base cn k R) (hr : Room (k + 1) X.A) (hg : Gl X cn) (ha : AD X ρ (e :: es) ds) (hR : R ds ns zs)
    (hdb : (cn == ("__debug__" : Str)) = false := by decide +kernel) (he : starEach (e :: es) X.env = (false, eval e X.env) :: starEach es X.env := by rfl) (hpl : (backTo pos (starEach es X.env)).any (·.1) = false := by rfl) :
    EO X ρ (.Call (.Name cn p) (e :: es) [] pos) (.ins cn ns zs) := fun B0 B σ H0 H Q j kk => by
  obtain ⟨C, f, fd, ps, hC, hm, M, F, hb⟩ := G.ex
  refine RE.of (pe_make (E := E0) M F hr hg hm hb .nil pass0 pa_star hdb he hpl) (ha B0 B σ H0 H _ j fun vs G0 G g r => ?_)
  intro x dx hx hdx hne
  rw [List.append_nil]
  have g0x : G0 x = none := g.sh.free hx
  have g0d : G0 dx = none := g.sh.free hdx
  have s1 : Same G0 (upd (upd G dx (.own x)) x (.ins C dx [])) := fun b u q => by
    rw [upd_ne (ne_of_none q g0x), upd_ne (ne_of_none q g0d)]
    exact g.sh b u q
  have sE : ∀ b u, G b = some u → er (upd (upd G dx (.own x)) x (.ins C dx [])) x b = some u := fun b u q => by
    have n1 := ne_of_none q hx
    rw [er_ne n1, upd_ne n1, upd_ne (ne_of_none q hdx)]
    exact q
  refine ⟨G0, x, C, dx, ds, ns, zs, vs, rfl, hC, s1, upd_same, g0x, r, hR, fun L0 L o gg e1 e2 e3 => ⟨rfl, ?_⟩⟩
  exact kk x o L0 L (g.trans ⟨gg.s0, gg.sh, fun b u q => gg.sB b u (sE b u q), fun b u q nt q' => gg.fr b u (sE b u q) nt q'⟩) e1 e2 (g.sB.free hx) e3
structure FnM (P : Program) (w : World) (K : PySem.W.Frag) (mg : Str → Option Value) (base : Heap) (cn m : Str) (k : Nat) (R : List D → D → Prop) : Prop where
  ex : ∃ C f fd ps, PySem.W.nsIn K mainGlobals cn = some (some (.ref C)) ∧ Cls K C ∧ Meth K C m f ∧ FnOk P w K mg base CX0 k f fd ps (spR K R) ∧ Binds K fd ps []
end
end DL
namespace DL
open PySem PySem.Spec PyProof.Rows L2
local instance (priority := 2000) keyBEq : BEq Key := instBEqOfDecidableEq
/-- the keys, each once -/
def stepK (σ : List Key) (v : Key) : List Key := if v ∈ σ then σ else σ ++ [v]
def ddK (ks : List Key) : List Key := ks.foldl stepK []
theorem ddK_snoc (ks : List Key) (v : Key) : ddK (ks ++ [v]) = stepK (ddK ks) v := by
  unfold ddK; rw [List.foldl_append]; rfl
theorem snoc_ind {α : Type} {P : List α → Prop} (h0 : P []) (hs : ∀ l x, P l → P (l ++ [x])) : ∀ l, P l := fun l => by
  have : ∀ n, ∀ l : List α, l.length = n → P l := fun n => by
    induction n with
    | zero => intro l hl; rw [List.length_eq_zero_iff.mp hl]; exact h0
    | succ n ih =>
      intro l hl
      have hne : l ≠ [] := fun e => by rw [e] at hl; cases hl
      rw [← List.dropLast_concat_getLast hne]
      exact hs _ _ (ih _ (by rw [List.length_dropLast, hl]; rfl))
  exact this _ l rfl
theorem mem_ddK (k : Key) : ∀ ks : List Key, k ∈ ddK ks ↔ k ∈ ks := by
  refine snoc_ind (by simp [ddK]) fun ks v ih => ?_
  rw [ddK_snoc, List.mem_append]
  unfold stepK
  split
  · rename_i h
    rw [ih]
    constructor
    · exact .inl
    · rintro (h1 | h1)
      · exact h1
      · rw [List.mem_singleton] at h1; subst h1; exact ih.mp h
  · rw [List.mem_append, ih]
theorem ddK_len : ∀ ks : List Key, (ddK ks).length ≤ ks.length := by
  refine snoc_ind (by simp [ddK]) fun ks v ih => ?_
  rw [ddK_snoc, List.length_append]
  unfold stepK
  split
  · omega
  · rw [List.length_append]; simp only [List.length_cons, List.length_nil]; omega
theorem ddK_nodup : ∀ ks : List Key, ks.Nodup → (ddK ks).length = ks.length := by
  refine snoc_ind (by simp [ddK]) fun ks v ih h => ?_
  rw [List.nodup_append] at h
  rw [ddK_snoc, List.length_append]
  unfold stepK
  rw [if_neg, List.length_append, ih h.1]
  intro hv
  exact h.2.2 v ((mem_ddK v ks).mp hv) v (by simp) rfl
section
variable {P : Program} {w : World} {A : Around} {E : Value → Shared → Prop} {s : Shared}
theorem set_update_keys {I : Addr} {fp wr : List Addr} {G : Array GenState → Array GenState → Prop} {n : Nat} {Pv : Nat → Value → Prop} {St : Nat → Shared → Prop} {R : Result → Shared → Prop}
    (W : WalksS P w A.in1 I fp wr G n Pv St) (S : Addr) (hSf : S ∉ fp) (ks : List Key) (hn : n = ks.length) (hb : ks.length + 1 < scanBound) (hval : ∀ i v, Pv i v → ∃ k, ks[i]? = some k ∧ (mixKind P w).is k v = true ∧ v.scannable = true) :
    ∀ (k i : Nat) (s : Shared), n - i = k → i ≤ n → St i s → s.heap.SetOf (mixKind P w) S (fun j => decide (j ∈ ks.take i)) (ddK (ks.take i)).length →
      (∀ s', Moved (S :: wr) G s s' → s'.heap.SetOf (mixKind P w) S (fun j => decide (j ∈ ks)) (ddK ks).length → R (.ok (.ret .none)) s') →
      codeAny (model P w) A (.builtin "set.update.loop" ⟨[.ref S, .ref I], []⟩) R s := by
  have hSw : S ∉ wr := fun h => hSf (W.sub _ h)
  have hsub : ∀ b ∈ wr, b ∈ S :: wr := fun b hb => List.mem_cons_of_mem _ hb
  intro k
  induction k with
  | zero =>
    intro i s hk' hi hst hS hR
    have hin : i = n := by omega
    subst hin
    refine codeAny_builtin F.entry_set_update_loop ?_
    rw [Around.under_plainId F.plain_set_update_loop _]
    show wpAny _ A.in1 (pyNext (.ref I) >>= _) _ _ s
    refine wpAny_bind (W.done s _ _ hst fun s' hm => ?_)
    show wpAny _ A.in1 (ret Value.none) _ _ s'
    have e : ks.take i = ks := List.take_of_length_le (by omega)
    rw [e] at hS
    exact wpAny_pure (hR s' (hm.mono hsub) (setOf_at hS fun o e => hm.heap S o hSw e))
  | succ k ih =>
    intro i s hk' hi hst hS hR
    have hlt : i < n := by omega
    refine codeAny_builtin F.entry_set_update_loop ?_
    rw [Around.under_plainId F.plain_set_update_loop _]
    show wpAny _ A.in1 (pyNext (.ref I) >>= _) _ _ s
    refine wpAny_bind (W.item i s _ _ hlt hst fun v s' hP hst' hm => ?_)
    obtain ⟨z, hz, hkey, hsc⟩ := hval i v hP
    have hS' : s'.heap.SetOf (mixKind P w) S (fun j => decide (j ∈ ks.take i)) (ddK (ks.take i)).length := setOf_at hS fun o e => hm.heap S o hSw e
    show wpAny _ A.in1 (holding [v] (setAdd S v) >>= _) _ _ s'
    refine wpAny_bind (wpAny_holding ?_)
    unfold setAdd
    refine wpAny_holding ?_
    refine wpAny_bind ((mixKind P w).pyHash (k := z) hkey ?_)
    have hroom : (ddK (ks.take i)).length + 1 < scanBound := by
      have h1 := ddK_len (ks.take i)
      rw [List.length_take] at h1
      omega
    refine wpAny_setAddHashed_of (s := { s' with toks := s'.toks + 1 }) hkey hsc hS' hroom fun h' hsb hS2 => ?_
    have et : ks.take (i + 1) = ks.take i ++ [z] := by rw [List.take_add_one, hz]; rfl
    have hS3 : h'.SetOf (mixKind P w) S (fun j => decide (j ∈ ks.take (i + 1))) (ddK (ks.take (i + 1))).length := by
      refine SetOf_congr hS2 (fun j => ?_) ?_
      · rw [et]
        simp [List.mem_append]
      · rw [et, ddK_snoc]
        unfold stepK
        by_cases hm : z ∈ ks.take i
        · rw [if_pos (decide_eq_true hm), if_pos ((mem_ddK _ _).mpr hm)]
        · rw [if_neg (by simpa using hm), if_neg (fun q => hm ((mem_ddK _ _).mp q)), List.length_append]; rfl
    refine wpAny_pure ⟨plainId_quiet F.plain_set_update_loop _, ih (i + 1) _ (by omega) hlt (W.frame _ s' _ _ hst' (Nat.le_succ _) fun b hb o e => ?_) hS3 fun s'' hm'' hS'' => ?_⟩
    · rw [hsb.2 b (fun h : b = S => hSf (by rw [← h]; exact hb))]; exact e
    · refine hR s'' (Moved.trans W.gtrans ((hm.mono hsub).then_heap (Nat.le_succ _) fun b o hb e => ?_) hm'') hS''
      rw [hsb.2 b (fun h : b = S => hb (by rw [h]; exact List.mem_cons_self))]; exact e
/-- the values are the keys -/
def KeysAre (P : Program) (w : World) (us : List Value) (ks : List Key) : Prop := us.length = ks.length ∧ ∀ (i : Nat) u, us[i]? = some u → ∃ k, ks[i]? = some k ∧ (mixKind P w).is k u = true ∧ u.scannable = true
theorem set_of_keys {p : Addr} {its : Array Value} (ks : List Key) {Q : Value → Shared → Prop} (quiet : A.handled = none) (isl : s.heap.IsList p its) (hks : KeysAre P w its.toList ks) (few : ks.length + 1 < scanBound)
    (fin : ∀ (g : Heap) (tk : Nat), g.SetOf (mixKind P w) s.heap.objs.size (fun j => decide (j ∈ ks)) (ddK ks).length → (∀ b o, s.heap.get? b = some o → g.get? b = some o) → Q (.ref s.heap.objs.size) { s with heap := g, toks := tk }) : wpAny (model P w) A (call (.type "set") [.ref p]) Q E s := by
  have size : its.size = ks.length := by rw [← hks.1, Array.length_toList]
  have f1 := F.called_set.made
  have f2 := F.called_set.sub
  have f3 := F.called_set.notType
  have f4 := F.called_set.canCreate
  have f5 := F.typeCall_set_1 (.ref p)
  obtain ⟨_, _, f6⟩ := F.called_set.mro
  refine wpAny_call (codeAny_of_tree (?_ : wpAny _ _ (callAny (.type "set") _) _ _ _))
  refine wpAny_pure ⟨Code.quiet_builtin _ (by decide +kernel), codeAny_builtin F.entry_type_call ?_⟩
  rw [Around.under_plain (weight_type_call_type "set" [.ref p] []) rfl]
  repeat (any_goals (first | assumption | wp_step))
  refine codeAny_mono (code_set_led1 (.ref p) (E := E) (Q₁ := fun v t => v = .ref s.heap.objs.size ∧ t = { s with heap := s.heap.push (nSet w) }) ⟨rfl, rfl⟩) fun r1 t1 e1 => ?_
  rcases r1 with r1 | r1
  · exact e1
  cases r1 with
  | ret v =>
    obtain ⟨rfl, rfl⟩ := e1
    have at0 : (s.heap.push (nSet w)).get? s.heap.objs.size = some (nSet w) := Heap.get?_push_size _ rfl
    have ty : Shared.TypeIs { s with heap := s.heap.push (nSet w) } (.ref s.heap.objs.size) "set" := ⟨_, at0, rfl⟩
    have f7 := F.called_set.init.lookup
    have f8 := F.called_set.init.bind (.ref s.heap.objs.size)
    repeat (any_goals (first | assumption | wp_step))
    refine codeAny_mono (codeAny_call_builtin (R := wants (fun v t => v = .none ∧ ∃ g tk, t = { s with heap := g, toks := tk } ∧ g.SetOf (mixKind P w) s.heap.objs.size (fun j => decide (j ∈ ks)) (ddK ks).length ∧ ∀ b o, s.heap.get? b = some o → g.get? b = some o) E) F.called_set.init.plain F.entry_set_init (check_set_init_1 ty ?_)) fun r2 t2 e2 => ?_
    · obtain ⟨⟨c0, d0, dat, sl⟩, ho, hc, n0, hd⟩ := isl
      simp only at hc hd
      subst hc hd
      have there : (s.heap.push (nSet w)).get? p = some { cls := .type "list", dict := d0, data := .seq its n0, slots := sl } := Heap.get?_push_of_some _ ho
      have g1 := F.sub_list_set
      have g2 := F.sub_list_frozenset
      have g3 : (Value.type "list" == Value.type "dict") = false := by decide
      have isl2 : (s.heap.push (nSet w)).IsList p its := ⟨_, there, rfl, n0, rfl⟩
      unfold Builtin.«set.__init__» noKeywords Builtin.Frozenset.updateFrom
      generalize hI : pyIter = IT
      wp_walk
      subst hI
      refine wpAny_pyIter_list isl2 (wpAny_bind (wpAny_runValue ?_))
      have old : p < s.heap.objs.size := Heap.lt_size ho
      have it0 : (s.heap.push (nSet w)).objs.size = s.heap.objs.size + 1 := Heap.size_push ..
      have quiet3 : A.in1.in1.in1.handled = none := by simp [quiet]
      have apart : p ≠ (s.heap.push (nSet w)).objs.size := fun e => Nat.ne_of_lt (Nat.lt_succ_of_lt old) (e.trans it0)
      have outside : s.heap.objs.size ∉ [(s.heap.push (nSet w)).objs.size, p] := by
        intro z
        simp only [List.mem_cons, List.not_mem_nil, or_false] at z
        rcases z with z | z
        · exact Nat.ne_of_lt (Nat.lt_succ_self _) (z.trans it0)
        · exact Nat.ne_of_gt old z
      have new : ((s.heap.push (nSet w)).push { cls := .type "list_iterator", data := .fields #[.ref p, .int 0 0] }).SetOf (mixKind P w) s.heap.objs.size (fun j => decide (j ∈ ks.take 0)) (ddK (ks.take 0)).length :=
        ⟨_, #[], 0, _, Heap.get?_push_of_some _ at0, ⟨rfl, rfl, rfl⟩, rfl, (fun e he => by simp at he), (fun k => by simp), (by decide), (by rfl), rfl⟩
      refine set_update_keys ((Walks.list quiet3 _ p apart its).toS) s.heap.objs.size outside ks size few (fun i v hv => ?_) (its.size - 0) 0 _ (by omega) (Nat.zero_le _) ⟨⟨_, Heap.get?_push_size _ rfl, rfl, rfl⟩, isl2.push _⟩ new fun t3 mv fin3 => ?_
      · exact hks.2 i v (by rw [Array.getElem?_toList]; exact hv)
      · obtain ⟨g, gs, dr, tk, os⟩ := t3
        obtain rfl : gs = s.gens := mv.gens
        obtain rfl : dr = s.drawn := mv.drawn
        obtain rfl : os = s.os := mv.os
        show wpAny _ _ _ _ _ _
        refine wpAny_pure (?_ : wpAny _ _ (ret Value.none) _ _ _)
        refine wpAny_pure ⟨rfl, g, tk, rfl, fin3, fun b o e => mv.heap b o (fun z => ?_) (Heap.get?_push_of_some _ (Heap.get?_push_of_some _ e))⟩
        have hb := Heap.lt_size e
        simp only [List.mem_cons, List.not_mem_nil, or_false] at z
        rcases z with z | z
        · exact Nat.ne_of_lt hb z
        · exact Nat.ne_of_lt (Nat.lt_succ_of_lt hb) (z.trans it0)
    · rcases r2 with r2 | r2
      · exact e2
      cases r2 with
      | ret v =>
        obtain ⟨rfl, g, tk, rfl, h1, h3⟩ := e2
        repeat (any_goals (first | assumption | wp_step))
        exact fin _ _ h1 h3
      | _ => exact e2.elim
  | _ => exact e1.elim
end
theorem keys_are {P : Program} {w : World} : ∀ {ks : List Key} {us : List Value}, Vals (ks.map kV) us → KeysAre P w us ks
  | [], us, r => by cases r; exact ⟨rfl, fun i u h => by simp at h⟩
  | k :: ks, us, r => by
    cases r with
    | cons r1 r2 =>
      have ih := keys_are (P := P) (w := w) r2
      refine ⟨by simp [ih.1], fun i u h => ?_⟩
      cases i with
      | zero =>
        simp only [List.getElem?_cons_zero, Option.some.injEq] at h ⊢
        subst h
        exact ⟨k, rfl, kV_is r1, key_scan r1⟩
      | succ i =>
        simp only [List.getElem?_cons_succ] at h ⊢
        exact ih.2 i u h
/-- an int, a text as a key -/
def kD : Key → D
  | .inl i => .int i
  | .inr x => .str x
theorem kD_val {K : PySem.W.Frag} {H : Hp} {k : Key} {v : V} (h : DR K H (kD k) v) : v = kV k := by
  cases k with
  | inl i => exact h
  | inr x => exact h
theorem kDs_val {K : PySem.W.Frag} {H : Hp} : ∀ {ks : List Key} {vs : List V}, DRs K H (ks.map kD) vs → vs = ks.map kV
  | [], vs, h => h
  | k :: ks, vs, h => by
    obtain ⟨v, r, rfl, h2, h3⟩ := h
    rw [kD_val h2, kDs_val h3]; rfl
section
variable {X : Cx} {ρ : En} {pos : Pos}
theorem call_setK (hc : X.calm = true) : CallR X (.type "set") (fun vs H Q => ∃ (l : Addr) (ks : List Key), vs = [.ref l] ∧ SqL X.K H l (ks.map kV) ∧ ks.length + 1 < scanBound ∧ ∀ p, H p = none → Q (.ref p) (upd H p (SetK X.prog X.w p (fun j => decide (j ∈ ks)) (ddK ks).length))) := by
  intro pins s σ H vs us Q I r h
  obtain ⟨l, ks, rfl, hs, few, q⟩ := h
  rw [Vals.ref1 r]
  obtain ⟨its, rv, pl, hz⟩ := I.list hs
  refine set_of_keys ks (I.ok.hd hc) pl.isList (by simpa using keys_are rv) few fun g tk hS hk => ?_
  exact ⟨.ref _, _, I.laid (t' := tk) hk (Nat.le_refl _) (setK_new hS), rfl, q _ (I.hok.fresh (Nat.le_refl _))⟩
theorem call_lenK : CallR X (.builtin "len") (fun vs H Q => ∃ (a : Addr) (S : Key → Bool) (n : Nat), vs = [.ref a] ∧ H a = some (SetK X.prog X.w a S n) ∧ Q (.int (n : Nat)) H) := by
  intro pins s σ H vs us Q I r h
  obtain ⟨a, S, n, rfl, ha, q⟩ := h
  rw [Vals.ref1 r]
  obtain ⟨o, es, ep, t, ho, hex, hd, _, _, hb, hf, hn⟩ := setK_get I ha
  refine call_len_set ho hex hd hf (by unfold scanBound at hb; omega) ⟨.int (n : Nat), H, I.tok _, ⟨_, by rw [hn]⟩, q⟩
/-- len(set(e)) -/
theorem ed_lenSetK {e : Expr} {ks : List Key} {p1 p2 q : Pos} (hc : X.calm = true) (hs : Gl X "len") (hms : X.mg "len" = none) (ht : Gl X "set") (hmt : X.mg "set" = none) (he : ED X ρ e (.lst (ks.map kD))) (few : ks.length + 1 < 4096)
    (h1 : starEach [e] X.env = (false, eval e X.env) :: starEach [] X.env := by rfl) (h2 : (backTo q (starEach [] X.env)).any (·.1) = false := by rfl)
    (h3 : starEach [.Call (.Name "set" p2) [e] [] q] X.env = (false, eval (.Call (.Name "set" p2) [e] [] q) X.env) :: starEach [] X.env := by rfl) (h4 : (backTo pos (starEach [] X.env)).any (·.1) = false := by rfl) :
    ED X ρ (.Call (.Name "len" p1) [.Call (.Name "set" p2) [e] [] q] [] pos) (.int ((ddK ks).length : Nat)) := fun B0 B σ H0 H Q j k => by
  refine RE.of (pe_callB call_lenK hs hms bb_len (pa_cons (pe_callTy (call_setK hc) ht hmt bb_set (pa_cons pe_star pa_nil h1) (by decide) (by decide) h1 h2) pa_nil h3) (by decide) (by decide) h3 h4) ?_
  refine he B0 B σ H0 H _ j fun v G0 G g r => ?_
  obtain ⟨l, vs, rfl, hS, rr⟩ := r
  rw [kDs_val rr] at hS
  refine ⟨l, ks, rfl, g.sh.seq hS, few, fun p hp => ?_⟩
  exact ⟨p, _, _, rfl, upd_same, k _ G0 _ (g.trans (JH.own g.sh hp)) rfl⟩
end
end DL
namespace DL
open PySem PySem.Spec PyProof.Rows L2
open PySem.W (EachIs AllAlike Sortable KeepsBut SortsAt KeyedOut dataLe dataKind alike sortingHeap sortingHeap_old)
section
variable {X : Cx} {ρ : En} {pos : Pos} {β : Type} {bs : List β} {enc : β → D}
/-- sorted(xs) -/
theorem call_sortedD (ok : KeyOk X.A enc bs) : CallR X (.builtin "sorted") (fun vs H Q => ∃ (l : Addr) (xs : List V) (H0 : Hp), vs = [.ref l] ∧ (SqL X.K H l xs ∨ SqT X.K H l xs) ∧ Same H0 H ∧ DRs X.K H0 (bs.map enc) xs ∧
    ∀ p ys, H p = none → DRs X.K H0 ((srtK enc bs).map enc) ys → Q (.ref p) (upd H p (.lst ys))) := by
  intro pins s σ H vs us Q I rv h
  obtain ⟨l, xs, H0, rfl, hs, s0, hd, q⟩ := h
  rw [Vals.ref1 rv]
  obtain ⟨its, T, o, n, hT, rvs, ho, hc, hdat, hz⟩ : ∃ (its : List Value) (T : String) (o : Obj) (n : Nat), (T = "list" ∨ T = "tuple") ∧ Vals xs its ∧ s.heap.get? l = some o ∧ o.cls = .type T ∧ o.data = .seq its.toArray n ∧ its.length ≤ sizeLine := by
    rcases hs with hs | hs
    · obtain ⟨its, r, ⟨o, n, e1, e2, _, e3⟩, z⟩ := I.list hs
      exact ⟨its, "list", o, n, .inl rfl, r, e1, e2, e3, by rw [← r.length]; exact z⟩
    · obtain ⟨its, r, ⟨o, e1, e2, n, e3⟩, z⟩ := I.tuple hs
      exact ⟨its, "tuple", o, n, .inr rfl, r, e1, e2, e3, by rw [← r.length]; exact z⟩
  have hv : All2 (fun u b => VD X.K H0 u (enc b)) its bs := by
    have : ∀ {us : List Value} {cs : List β} {ws : List V}, DRs X.K H0 (cs.map enc) ws → Vals ws us → All2 (fun u b => VD X.K H0 u (enc b)) us cs := by
      intro us cs
      induction cs generalizing us with
      | nil => intro ws h r; cases (show ws = [] from h); cases r; exact .nil
      | cons c cs ih =>
        intro ws h r
        obtain ⟨v, w, rfl, h1, h2⟩ := h
        cases r with
        | cons r1 r2 => exact .cons ⟨v, r1, h1⟩ (ih h2 r2)
    exact this hd rvs
  have hlen : its.length = bs.length := hv.len
  refine Calls.call_function_entry PyProof.Rows.kind_sorted PyProof.Rows.plain_sorted PyProof.Rows.entry_sorted (PyProof.Rows.args_sorted1 _) ?_
  unfold Builtin.«sorted»
  refine wpAny_bind (m := checkCount "sorted" 1 1 _) (wpAny_pure ?_)
  refine wpAny_bind (wpAny_collect_seq l hT ho hc hdat (fun h1 hk1 => ?_) (by rw [List.size_toArray]; exact hz))
  rw [List.toList_toArray]
  refine wpAny_bind (wpAny_newList ?_ hz)
  have I1 : Inv X pins σ H { s with heap := h1 } := I.kept hk1
  have at1 : (h1.push (seqObj "list" its.toArray 0)).get? h1.objs.size = some (seqObj "list" its.toArray 0) := Heap.get?_push_size _ rfl
  have kp : ∀ b o, h1.get? b = some o → (sortingHeap (h1.push (seqObj "list" its.toArray 0)) h1.objs.size its).get? b = some o := fun b o e =>
    sortingHeap_old (Nat.ne_of_lt (Heap.lt_size e)) (Heap.get?_push_of_some _ e)
  have er : EachIs (fun v b => ∃ as, Reads (sortingHeap (h1.push (seqObj "list" its.toArray 0)) h1.objs.size its) v (enc b).py as) its bs := by
    have : ∀ {us : List Value} {cs : List β}, All2 (fun u b => VD X.K H0 u (enc b)) us cs → (∀ b ∈ cs, b ∈ bs) → All2 (fun v b => ∃ as, Reads (sortingHeap (h1.push (seqObj "list" its.toArray 0)) h1.objs.size its) v (enc b).py as) us cs := by
      intro us cs h
      induction h with
      | nil => intro _; exact .nil
      | cons h t ih =>
        intro m
        obtain ⟨as, hr⟩ := reads_vd I1 s0 (ok.plain _ (m _ (by simp))) h
        exact .cons ⟨as, PyProof.Rows.Reads.keeps kp hr⟩ (ih fun b hb => m b (by simp [hb]))
    exact each_all2 (this hv fun b hb => hb)
  have er2 : EachIs (fun v d => ∃ as, Reads (sortingHeap (h1.push (seqObj "list" its.toArray 0)) h1.objs.size its) v d as) its (bs.map fun b => (enc b).py) := by
    have : ∀ {us : List Value} {cs : List β}, EachIs (fun v b => ∃ as, Reads (sortingHeap (h1.push (seqObj "list" its.toArray 0)) h1.objs.size its) v (enc b).py as) us cs → EachIs (fun v d => ∃ as, Reads (sortingHeap (h1.push (seqObj "list" its.toArray 0)) h1.objs.size its) v d as) us (cs.map fun b => (enc b).py) := by
      intro us cs h
      induction h with
      | nil => exact .nil
      | cons h t ih => exact .cons h ih
    exact this er
  have hu : ∀ d ∈ bs.map fun b => (enc b).py, X.A.in1.in1.units + d.depth < cLine := fun d hd => by
    obtain ⟨b, hb, rfl⟩ := List.mem_map.mp hd
    exact ok.deep b hb
  have S := SortsAt.data (prog := X.prog) (w := X.w) (A := X.A.in1.in1) (s := { s with heap := sortingHeap (h1.push (seqObj "list" its.toArray 0)) h1.objs.size its }) er2 ok.alike ok.sort hu
  have hout : EachIs (fun u b => VD X.K H0 u (enc b)) (PySem.W.sortVals (dataKind (sortingHeap (h1.push (seqObj "list" its.toArray 0)) h1.objs.size its) (bs.map fun b => (enc b).py)) false its its) (bs.mergeSort (dataLe false fun b => (enc b).py)) :=
    PySem.W.sortVals_data false (each_all2 hv) er ok.alike
  have hol : (PySem.W.sortVals (dataKind (sortingHeap (h1.push (seqObj "list" its.toArray 0)) h1.objs.size its) (bs.map fun b => (enc b).py)) false its its).length = its.length := PySem.W.sortVals_length false rfl
  refine wpAny_bind (wpAny_holding (wpAny_call_entry PyProof.Rows.slot_list_sort ⟨_, at1, rfl⟩ PyProof.Rows.entry_list_sort
    (PySem.W.list_sort_vals (κ := dataKind (sortingHeap (h1.push (seqObj "list" its.toArray 0)) h1.objs.size its) (bs.map fun b => (enc b).py)) at1 S hz ⟨_, rfl, ?_⟩) (PyProof.Rows.args_list_sort _)))
  generalize PySem.W.sortVals (dataKind (sortingHeap (h1.push (seqObj "list" its.toArray 0)) h1.objs.size its) (bs.map fun b => (enc b).py)) false its its = out at hout hol
  obtain ⟨ep2, he2⟩ := PyProof.Rows.sortedHeap_at (vs := its) (out := out.toArray) at1
  have hmap : ∀ {us : List Value} {cs : List β}, EachIs (fun u b => VD X.K H0 u (enc b)) us cs → All2 (VD X.K H0) us (cs.map enc) := by
    intro us cs h
    induction h with
    | nil => exact .nil
    | cons h t ih => exact .cons h ih
  obtain ⟨ys, q1, q2⟩ := vd_to (hmap hout)
  refine wpAny_pure ⟨_, rfl, .ref h1.objs.size, upd H h1.objs.size (.lst ys), I1.laid (t' := s.toks) (fun b u e => ?_) (Nat.le_refl _) ⟨by rw [q1.length, hol]; exact hz, out, ep2, q1, he2⟩, rfl, q _ _ (I1.hok.fresh (Nat.le_refl _)) q2⟩
  have hlt := Heap.lt_size e
  rw [PyProof.Rows.sortedHeap_old (Nat.ne_of_lt hlt) (by rw [size_push']; exact Nat.lt_succ_of_lt hlt)]
  exact Heap.get?_push_of_some _ e
theorem eo_sortedD {e : Expr} {p : Pos} {d : D} (hs : Gl X "sorted") (hms : X.mg "sorted" = none) (hd : SeqD d (bs.map enc)) (he : ED X ρ e d) (ok : KeyOk X.A enc bs)
    (h3 : starEach [e] X.env = (false, eval e X.env) :: starEach [] X.env := by rfl) (h4 : (backTo pos (starEach [] X.env)).any (·.1) = false := by rfl) :
    EO X ρ (.Call (.Name "sorted" p) [e] [] pos) (.lst ((srtK enc bs).map enc)) := fun B0 B σ H0 H Q j kk => by
  refine RE.of (pe_callB (call_sortedD ok) hs hms bb_sorted (pa_cons pe_star pa_nil h3) (by decide) (by decide) h3 h4) ?_
  refine he B0 B σ H0 H _ j fun v G0 G g r => ?_
  have fin : ∀ p ys, G p = none → DRs X.K G0 ((srtK enc bs).map enc) ys → Q (.ref p) (upd G p (.lst ys)) := fun p ys hp rr =>
    kk p _ G0 _ (g.trans (JH.own g.sh hp)) upd_same (g.sh.free hp) (g.sB.free hp) ⟨ys, rfl, rr⟩
  cases hd with
  | lst =>
    obtain ⟨a, ys, rfl, h1, h2⟩ := r
    exact ⟨a, ys, G0, rfl, .inl (g.sh.seq h1), g.sh, h2, fin⟩
  | tup =>
    obtain ⟨a, ys, rfl, h1, h2⟩ := r
    exact ⟨a, ys, G0, rfl, .inr (Same.seqT g.sh h1), g.sh, h2, fin⟩
theorem c2_leS {i j : Str} : C2 X .LtE (.str i) (.str j) (.bl (!decide (j.cps.toList < i.cps.toList))) := ⟨_, op_le_str, fun H0 H x y Q s r1 r2 k => by
  cases (show x = .str i from r1); cases (show y = .str j from r2)
  exact ⟨i, j, rfl, rfl, k _ H0 H (JH.refl s) rfl⟩⟩
theorem bc_strI {i : Int} (h : i.natAbs.log2 < 1920) : BC X (.type "str") [.int i] (.str (toString i)) := bc_keep call_str_int _ (fun _ => rfl) fun _ _ vs _ _ r q => by
  obtain ⟨x, rfl, h1⟩ := r.one'
  cases (show x = .int i from h1)
  exact ⟨i, rfl, h, q⟩
/-- the signs of a text, each a text -/
def sgn (c : Nat) : Str := ⟨#[c]⟩
theorem id_str {tg e : Expr} {z : Str} (h : ED X ρ e (.str z)) : ID X ρ tg e (z.cps.toList.map fun c => .str (sgn c)) := fun B0 B σ H0 H R j k =>
  ⟨_, pi_str pe_star, h B0 B σ H0 H _ j fun v G0 G g r => ⟨z, r, k _ G0 G g ⟨_, _, (by rw [List.length_map, Array.length_toList]; exact walk_str (z := z)), fun _ _ _ _ => trivial, fun i H1 H x H' d hd s1 s2 y => by
    obtain ⟨rfl, c, hc, rfl⟩ := y
    rw [List.getElem?_map, Array.getElem?_toList, hc] at hd
    cases hd
    exact ⟨H1, JH.refl s2, rfl⟩⟩⟩⟩
theorem c2_inStr {x : Str} {ys : List Str} {d : D} (hd : SeqD d (ys.map D.str)) : C2 X .In (.str x) d (.bl (decide (x ∈ ys))) := ⟨_, op_in_seq, fun H0 H u v Q s r1 r2 k => by
  cases (show u = .str x from r1)
  have hf : (ys.map V.str).all flatV = true := by simp [flatV]
  have hi : inV (.str x) (ys.map V.str) = decide (x ∈ ys) := by
    unfold inV
    rw [Bool.eq_iff_iff]
    simp only [List.any_eq_true, List.mem_map, decide_eq_true_eq]
    constructor
    · rintro ⟨v, ⟨y, hy, rfl⟩, h⟩
      have : y = x := by simpa [eqV] using h
      exact this ▸ hy
    · intro h
      exact ⟨.str x, ⟨x, h, rfl⟩, by simp [eqV]⟩
  have fin : Q (.bl (if false = true then !inV (.str x) (ys.map V.str) else inV (.str x) (ys.map V.str))) H := by
    rw [hi]; exact k _ H0 H (JH.refl s) rfl
  cases hd with
  | lst =>
    obtain ⟨a, vs, rfl, h1, h2⟩ := r2
    rw [DRs.strs h2] at h1
    exact ⟨a, _, rfl, .inl (s.seq h1), rfl, hf, fin⟩
  | tup =>
    obtain ⟨a, vs, rfl, h1, h2⟩ := r2
    rw [DRs.strs h2] at h1
    exact ⟨a, _, rfl, .inr (Same.seqT s h1), rfl, hf, fin⟩⟩
end
end DL
namespace DL
open PySem PySem.Spec PyProof.Rows L2
section
variable {X : Cx} {ρ : En} {pos : Pos}
theorem ptp_tup {K : PySem.W.Frag} {H : Hp} {ds : List D} {v : V} (h : DR K H (.ptp ds) v) : DR K H (.tup ds) v := by
  obtain ⟨a, o, vs, h1, h2, h4, h3⟩ := h
  exact ⟨a, vs, h1, .inl (.inr ⟨o, h2⟩), h3⟩
theorem call_tupleX : CallR X (.type "tuple") (fun xs H Q => ∃ p ys, xs = [.ref p] ∧ SqL X.K H p ys ∧ ∀ l o, o.dict = none → H l = none → Q (.ref l) (upd H l (.frz o (.tup ys)))) := by
  intro pins s σ H xs us Q I r h
  obtain ⟨p, ys, rfl, hq, q⟩ := h
  obtain ⟨u, rfl, rx⟩ := vals1 r
  cases rx
  obtain ⟨its, r', pl, hz⟩ := I.list hq
  have hlen := r'.length
  refine call_tuple_list pl.isList (fun h' kp => ?_) (by simp only [List.size_toArray] <;> omega)
  have I1 : Inv X pins σ H { s with heap := h' } := I.kept (t' := s.toks) kp
  have I2 : Inv X pins σ (upd H h'.objs.size (.frz { cls := .type "tuple", data := .seq its.toArray } (.tup ys))) { s with heap := h'.push { cls := .type "tuple", data := .seq its.toArray } } :=
    I1.laid (t' := s.toks) (fun b o e => Heap.get?_push_of_some _ e) (Nat.le_refl _) (show ObjOk X.prog X.w _ _ _ (.frz _ (.tup ys)) from ⟨Heap.get?_push_size _ rfl, hz, its, r', IsTup.new _ _⟩)
  exact ⟨.ref h'.objs.size, _, I2, rfl, q _ _ rfl (I1.hok.fresh (Nat.le_refl _))⟩
/-- tuple(e), e a list -/
theorem ed_tupX {e : Expr} {ds : List D} {p : Pos} (ht : Gl X "tuple") (hmt : X.mg "tuple" = none) (he : ED X ρ e (.lst ds))
    (h1 : starEach [e] X.env = (false, eval e X.env) :: starEach [] X.env := by rfl) (h2 : (backTo pos (starEach [] X.env)).any (·.1) = false := by rfl) :
    ED X ρ (.Call (.Name "tuple" p) [e] [] pos) (.ptp ds) := fun B0 B σ H0 H Q j k => by
  refine RE.of (pe_callTy call_tupleX ht hmt bb_tuple (pa_cons pe_star pa_nil h1) (by decide) (by decide) h1 h2) (he B0 B σ H0 H _ j fun v G0 G g r => ?_)
  obtain ⟨l, vs, rfl, hS, rr⟩ := r
  refine ⟨l, vs, rfl, g.sh.seq hS, fun p o ho hp => ?_⟩
  have g2 : JH G0 G (upd G0 p (.frz o (.tup vs))) (upd G p (.frz o (.tup vs))) := JH.new g.sh hp
  exact k _ _ _ (g.trans g2) ⟨p, o, vs, rfl, upd_same, ho, DRs.mono g2.s0 _ _ rr⟩
theorem call_dictX (hcalm : X.calm = true) : CallR X (.type "dict") (fun xs H Q => ∃ (a : Addr) (o : Obj) (ps : List Addr) (kvs : List (Key × V)), xs = [.ref a] ∧ H a = some (.frz o (.tup (ps.map V.ref))) ∧ o.dict = none ∧ Paired (fun p kv => SqT X.K H p [kV kv.1, kv.2]) ps kvs ∧
    ∀ p, H p = none → Q (.ref p) (upd H p (.dK (mergeK [] kvs)))) := by
  intro pins s σ H xs us Q I r q
  obtain ⟨a, o, ps, kvs, ex, hq, hdn, hp, q⟩ := q
  subst ex
  obtain ⟨u, eu, rx⟩ := vals1 r
  subst eu
  cases rx
  obtain ⟨hget, hz, its, rv, o', ho', hc', n', hd'⟩ := (show ObjOk X.prog X.w H s.heap a (.frz o (.tup (ps.map V.ref))) from I.hok a _ hq)
  rw [hget] at ho'; cases ho'
  have ei := refs_at rv
  subst ei
  rw [List.length_map] at hz
  obtain ⟨prs, rel, hl, hpr⟩ := L2.pairs_of I hp
  have hall : ∃ us : List (Value × Value), us.length = prs.length ∧ ∀ (i : Nat) (k v : Value), us[i]? = some (k, v) → ∃ (b : Addr) (q' : Key × Value), ps[i]? = some b ∧ prs[i]? = some q' ∧ q'.2 = v ∧ IsTup s.heap b #[k, v] ∧ (mixKind X.prog X.w).is q'.1 k = true := by
    have ex : ∀ i : Nat, ∃ x : Value × Value, i < prs.length → ∃ (b : Addr) (q' : Key × Value), ps[i]? = some b ∧ prs[i]? = some q' ∧ q'.2 = x.2 ∧ IsTup s.heap b #[x.1, x.2] ∧ (mixKind X.prog X.w).is q'.1 x.1 = true := fun i => by
      by_cases h : i < prs.length
      · obtain ⟨b, u, e1, e2, e3⟩ := hpr i prs[i] (by simp [h])
        exact ⟨(u, prs[i].2), fun _ => ⟨b, prs[i], e1, by simp [h], rfl, e2, e3⟩⟩
      · exact ⟨(.none, .none), fun z => absurd z h⟩
    let f := fun i => Classical.choose (ex i)
    have hf := fun i => Classical.choose_spec (ex i)
    refine ⟨(List.range prs.length).map f, by simp, fun i k v hi => ?_⟩
    have hlt : i < prs.length := by have := (List.getElem?_eq_some_iff.mp hi).1; simpa using this
    have e : f i = (k, v) := by
      simp [List.getElem?_map, List.getElem?_range hlt] at hi
      exact hi
    obtain ⟨b, q', e1, e2, e3, e4, e5⟩ := hf i hlt
    rw [show Classical.choose (ex i) = (k, v) from e] at e3 e4 e5
    exact ⟨b, q', e1, e2, e3, e4, e5⟩
  obtain ⟨us, hul, hus⟩ := hall
  have hps : us.length = ps.length := by rw [hul, hl]
  refine PySem.call_dict_pairs (knd := mixKind X.prog X.w) (kvs := prs) (PairArg.tuple a (ps.map Value.ref).toArray (fun i => ps.getD i 0) us) (I.ok.hd hcalm) ⟨⟨o, n', hget, hc', hdn, hd'⟩, by simp [hps], fun i k v hi => ?_⟩ ⟨hul.symm, fun i k v hi => ?_⟩ (by rw [hps]; exact hz) fun h' tk hd' k => ?_
  · obtain ⟨b, q', e1, e2, e3, e4, e5⟩ := hus i k v hi
    refine ⟨by simp [e1], .inl ?_⟩
    show s.heap.IsTuple (ps.getD i 0) #[k, v]
    rw [show ps.getD i 0 = b by simp [List.getD_eq_getElem?_getD, e1]]
    obtain ⟨ot, h1, h2, n2, h3⟩ := e4
    exact ⟨ot, h1, h2, n2, h3⟩
  · obtain ⟨b, q', e1, e2, e3, e4, e5⟩ := hus i k v hi
    exact ⟨q'.1, by rw [e2, ← e3], e5⟩
  · have hm : (s.heap.objs.size == sysModules) = false := beq_eq_false_iff_ne.mpr (Nat.ne_of_gt I.big)
    have hlen : (mergeK [] kvs).length ≤ sizeLine := by
      refine Nat.le_trans (length_mergeK kvs []) ?_
      rw [List.length_nil, Nat.zero_add, rel.length, hl]
      exact hz
    exact ⟨.ref s.heap.objs.size, upd H s.heap.objs.size (.dK (mergeK [] kvs)), I.laid (t' := tk) (fun b o e => k b o (by simp) e) (Nat.le_refl _) (show ObjOk X.prog X.w _ _ _ (.dK (mergeK [] kvs)) from ⟨hlen, hm, merged [] prs, KV.merge rel .nil, hd'⟩), rfl, q _ (I.hok.fresh (Nat.le_refl _))⟩
end
theorem mergeK_new : ∀ {kvs acc : List (Key × V)}, ((acc ++ kvs).map (·.1)).Nodup → mergeK acc kvs = acc ++ kvs
  | [], acc, _ => by unfold mergeK; simp
  | kv :: kvs, acc, h => by
    have hn : kv.1 ∉ acc.map (·.1) := by
      rw [List.map_append, List.nodup_append] at h
      exact fun z => h.2.2 _ z kv.1 (by simp) rfl
    have e : putK acc kv.1 kv.2 = acc ++ [kv] := putK_new _ (by
      cases q : valV acc kv.1 with
      | none => rfl
      | some v =>
        exact absurd (valV_in q) hn)
    have : mergeK acc (kv :: kvs) = mergeK (putK acc kv.1 kv.2) kvs := rfl
    rw [this, e, mergeK_new (by rw [List.append_assoc]; exact h), List.append_assoc]
    rfl
def prD (q : Key × D) : D := .tup [kD q.1, q.2]
theorem prs_of {K : PySem.W.Frag} {H : Hp} : ∀ {kds : List (Key × D)} {vs : List V}, DRs K H (kds.map prD) vs → ∃ (ps : List Addr) (ws : List V), vs = ps.map V.ref ∧ ws.length = kds.length ∧ Paired (fun p (kv : Key × V) => SqT K H p [kV kv.1, kv.2]) ps ((kds.map (·.1)).zip ws) ∧ DRs K H (kds.map (·.2)) ws
  | [], vs, h => by cases (show vs = [] from h); exact ⟨[], [], rfl, rfl, .nil, rfl⟩
  | q :: kds, vs, h => by
    obtain ⟨v, r, rfl, ⟨a, us, rfl, h1, h2⟩, h3⟩ := h
    obtain ⟨x, y, rfl, h4, h5⟩ := h2.two
    obtain ⟨ps, ws, rfl, hl, hp, hd⟩ := prs_of h3
    rw [kD_val h4] at h1
    exact ⟨a :: ps, y :: ws, rfl, by simp [hl], .cons h1 hp, y, ws, rfl, h5, hd⟩
theorem Paired.mono {α β : Type} {R R' : α → β → Prop} (m : ∀ a b, R a b → R' a b) : ∀ {as : List α} {bs : List β}, Paired R as bs → Paired R' as bs
  | _, _, .nil => .nil
  | _, _, .cons h t => .cons (m _ _ h) (Paired.mono m t)
section
variable {X : Cx} {ρ : En} {pos : Pos}
/-- dict(t), t a tuple of pairs, the keys each once -/
theorem eo_dictP {e : Expr} {p : Pos} {kds : List (Key × D)} (hc : X.calm = true) (ht : Gl X "dict") (hmt : X.mg "dict" = none) (nd : (kds.map (·.1)).Nodup) (he : ED X ρ e (.ptp (kds.map prD)))
    (h1 : starEach [e] X.env = (false, eval e X.env) :: starEach [] X.env := by rfl) (h2 : (backTo pos (starEach [] X.env)).any (·.1) = false := by rfl) :
    EO X ρ (.Call (.Name "dict" p) [e] [] pos) (.dk (kds.map (·.1)) (kds.map (·.2))) := fun B0 B σ H0 H Q j k => by
  refine RE.of (pe_callTy (call_dictX hc) ht hmt bb_dict (pa_cons pe_star pa_nil h1) (by decide) (by decide) h1 h2) (he B0 B σ H0 H _ j fun v G0 G g r => ?_)
  obtain ⟨a, o, vs, rfl, hS, ho, rr⟩ := r
  obtain ⟨ps, ws, rfl, hl, hp, hd⟩ := prs_of rr
  have hfst : ((kds.map (·.1)).zip ws).map (·.1) = kds.map (·.1) := List.map_fst_zip (by simp [hl])
  refine ⟨a, o, ps, (kds.map (·.1)).zip ws, rfl, g.sh _ _ hS, ho, Paired.mono (fun p kv h => Same.seqT g.sh h) hp, fun p hp => ?_⟩
  rw [mergeK_new (acc := []) (by rw [List.nil_append, hfst]; exact nd), List.nil_append]
  exact k p _ G0 _ (g.trans (JH.own g.sh hp)) upd_same (g.sh.free hp) (g.sB.free hp) ⟨ws, rfl, by simp [hl], hd⟩
/-- z[lo:hi], z a text -/
theorem ed_sliceS {e : Expr} {lo hi : Option Expr} {p q : Option Int} {z : Str} {p2 : Pos} (he : ED X ρ e (.str z)) (hz : z.length ≤ sizeLine) (hl : Part X ρ lo p) (hh : Part X ρ hi q) : ED X ρ (.Subscript e (.Slice lo hi none p2) pos) (.str (cutS z p q)) := fun B0 B σ H0 H Q j k =>
  RE.of (pe_slice sl_str pe_star po_star po_star) (he B0 B σ H0 H _ j fun v G0 G g1 r => hl.run (j.grow g1) fun L0 L g2 => hh.run ((j.grow g1).grow g2) fun M0 M g3 =>
    ⟨z, r, hz, k _ M0 M ((g1.trans g2).trans g3) rfl⟩)
/-- t[lo:hi], t a tuple -/
theorem ed_sliceT {e : Expr} {lo hi : Option Expr} {p q : Option Int} {ds : List D} {p2 : Pos} (he : ED X ρ e (.tup ds)) (hl : Part X ρ lo p) (hh : Part X ρ hi q) : ED X ρ (.Subscript e (.Slice lo hi none p2) pos) (.tup (cutD ds p q)) := fun B0 B σ H0 H Q j k =>
  RE.of (pe_slice sl_tupA pe_star po_star po_star) (he B0 B σ H0 H _ j fun v G0 G g1 r => hl.run (j.grow g1) fun L0 L g2 => hh.run ((j.grow g1).grow g2) fun M0 M g3 => by
    obtain ⟨a, vs, rfl, h1, h2⟩ := r
    have g := g2.trans g3
    have h2' := DRs.mono g.s0 _ _ h2
    have h1' := Same.seqT (g.sh) (Same.seqT g.s0 h1)
    refine ⟨a, vs, rfl, h1', fun hw => k _ M0 M (g1.trans g) ⟨a, _, rfl, Same.seqT g.s0 h1, by
      have e : cutD ds p q = ds := by
        unfold cutD
        rw [DRs.length h2', hw.1, hw.2, List.drop_zero, Nat.sub_zero, ← DRs.length h2', List.take_length]
      rw [e]; exact h2'⟩, fun hw pp hp => ?_⟩
    have g4 : JH M0 M (upd M0 pp (.tup (cutV vs p q))) (upd M pp (.tup (cutV vs p q))) := JH.new g.sh hp
    exact k _ _ _ ((g1.trans g).trans g4) ⟨pp, _, rfl, SqT.of upd_same, DRs.mono g4.s0 _ _ (DRs.cut h2' _ _)⟩)
end
end DL
namespace DL
open PySem PySem.Spec PyProof.Rows L2
section
variable {X : Cx} {ρ : En} {pos : Pos} {a b c d : Expr}
def tChain3 (r r' r'' : R2) (ta tb tc td : TE) : TE := fun σ H Q => ta σ H fun x H1 => tb σ H1 fun y H2 => r x y H2 fun z H3 => ∃ k, z = .bl k ∧
  (if k = true then tc σ H3 fun u H4 => r' y u H4 fun z' H5 => ∃ k', z' = .bl k' ∧ (if k' = true then td σ H5 fun v H6 => r'' u v H6 Q else Q (.bl false) H5) else Q (.bl false) H3)
theorem pe_chain3 {op op' op'' : CmpOp} {r r' r'' : R2} {ta tb tc td : TE} (ho : OpR X (compareOp op) r) (ho' : OpR X (compareOp op') r') (ho'' : OpR X (compareOp op'') r'') (ha : PE X a ta) (hb : PE X b tb) (hc : PE X c tc) (hd : PE X d td)
    (hm : lastMarks [op, op', op''] [b, c, d] = false := by with_unfolding_all rfl) : PE X (.Compare a [op, op', op''] [b, c, d] pos) (tChain3 r r' r'' ta tb tc td) := by
  refine ⟨fun pins s σ H Q I h => ?_⟩
  refine Compare_chain (thn (ha.run pins s σ H _ I h) fun v s1 ⟨x, H1, I1, r1, q1⟩ => chain_link (thn (hb.run pins s1 σ H1 _ I1 q1) fun u s2 ⟨y, H2, I2, r2, q2⟩ =>
    thn (ho pins s2 σ H2 x y v u _ I2 r1 r2 q2) fun d s3 ⟨z, H3, I3, r3, k, e, q3⟩ => ?_)) hm
  subst e
  cases r3
  refine wpAny_truthy_bool ?_
  cases k with
  | false => exact ite_ff ⟨.bl false, H3, I3, rfl, q3⟩
  | true =>
    refine ite_tt (chain_link (thn (hc.run pins s3 σ H3 _ I3 q3) fun w' s4 ⟨z', H4, I4, r4, q4⟩ => thn (ho' pins s4 σ H4 y z' u w' _ I4 r2 r4 q4) fun d5 s5 ⟨z5, H5, I5, r5, k5, e5, q5⟩ => ?_))
    subst e5
    cases r5
    refine wpAny_truthy_bool ?_
    cases k5 with
    | false => exact ite_ff ⟨.bl false, H5, I5, rfl, q5⟩
    | true => exact ite_tt (chain_last (thn (hd.run pins s5 σ H5 _ I5 q5) fun w6 s6 ⟨z6, H6, I6, r6, q6⟩ => ho'' pins s6 σ H6 z' z6 w' w6 Q I6 r4 r6 q6))
theorem ed_chain3 {op op' op'' : CmpOp} {d1 d2 d3 d4 : D} {k k' k'' : Bool} (ha : ED X ρ a d1) (hb : ED X ρ b d2) (hc : ED X ρ c d3) (hd : ED X ρ d d4) (ho : C2 X op d1 d2 (.bl k)) (ho' : C2 X op' d2 d3 (.bl k')) (ho'' : C2 X op'' d3 d4 (.bl k'')) (hm : lastMarks [op, op', op''] [b, c, d] = false := by with_unfolding_all rfl) :
    ED X ρ (.Compare a [op, op', op''] [b, c, d] pos) (.bl (k && (k' && k''))) := fun B0 B σ H0 H Q j kk => by
  obtain ⟨r, h1, h2⟩ := ho
  obtain ⟨r', h1', h2'⟩ := ho'
  obtain ⟨r'', h1'', h2''⟩ := ho''
  refine RE.of (pe_chain3 h1 h1' h1'' pe_star pe_star pe_star pe_star hm) (ha B0 B σ H0 H _ j fun x G0 G g1 r1 => ?_)
  refine hb B0 B σ G0 G _ (j.grow g1) fun y L0 L g2 r2 => ?_
  refine h2 L0 L x y _ g2.sh (DR.mono g2.s0 _ _ r1) r2 fun v M0 M g3 r3 => ⟨k, r3, ?_⟩
  cases k with
  | false => exact iteF (kk _ M0 M ((g1.trans g2).trans g3) rfl)
  | true =>
    refine iteT (hc B0 B σ M0 M _ (((j.grow g1).grow g2).grow g3) fun z N0 N g4 r4 => ?_)
    refine h2' N0 N y z _ g4.sh (DR.mono (g3.trans g4).s0 _ _ r2) r4 fun v P0 P g5 r5 => ⟨k', r5, ?_⟩
    have gg := ((g1.trans g2).trans (g3.trans g4)).trans g5
    cases k' with
    | false => exact iteF (kk _ P0 P gg (by show V.bl false = V.bl (true && (false && k'')); rfl))
    | true =>
      refine iteT (hd B0 B σ P0 P _ (j.grow gg) fun z6 R0 R g6 r6 => ?_)
      exact h2'' R0 R z z6 Q g6.sh (DR.mono (g5.trans g6).s0 _ _ r4) r6 fun v S0 S g7 r7 => kk v S0 S (gg.trans (g6.trans g7)) (by simpa using r7)
end
theorem one_lt (a b : Nat) : (([a] : List Nat) < [b]) ↔ a < b := by
  constructor
  · intro h
    cases h with
    | rel h => exact h
    | cons h => cases h
  · exact fun h => List.Lex.rel h
theorem chX {x y : Str} {lo hi : Nat} (e1 : x.cps.toList = [lo]) (e2 : y.cps.toList = [hi]) (c : Nat) : ((!decide ((⟨#[c]⟩ : Str).cps.toList < x.cps.toList)) && (!decide (y.cps.toList < (⟨#[c]⟩ : Str).cps.toList))) = (decide (lo ≤ c) && decide (c ≤ hi)) := by
  rw [Bool.eq_iff_iff]
  simp only [Bool.and_eq_true, Bool.not_eq_true', decide_eq_false_iff_not, decide_eq_true_eq]
  rw [e1, e2]
  show ¬ (([c] : List Nat) < [lo]) ∧ ¬ (([hi] : List Nat) < [c]) ↔ _
  rw [one_lt, one_lt]
  omega
theorem chA (c : Nat) : ((!decide ((⟨#[c]⟩ : Str).cps.toList < (PySem.Str.ofString "a").cps.toList)) && (!decide ((PySem.Str.ofString "z").cps.toList < (⟨#[c]⟩ : Str).cps.toList))) = (decide (97 ≤ c) && decide (c ≤ 122)) :=
  chX (by decide +kernel) (by decide +kernel) c
theorem ch0 (c : Nat) : ((!decide ((⟨#[c]⟩ : Str).cps.toList < (PySem.Str.ofString "0").cps.toList)) && (!decide ((PySem.Str.ofString "9").cps.toList < (⟨#[c]⟩ : Str).cps.toList))) = (decide (48 ≤ c) && decide (c ≤ 57)) :=
  chX (by decide +kernel) (by decide +kernel) c
end DL
namespace DL
open PySem PySem.Spec PyProof.Rows L2
open PySem.W (AllAlike Sortable dataLe alike)
def loB (c : Nat) : Bool := decide (97 ≤ c) && decide (c ≤ 122)
def chB (c : Nat) : Bool := loB c || (decide (48 ≤ c) && decide (c ≤ 57))
def nameB (x : Str) : Bool := (decide (1 ≤ x.length) && decide (x.length ≤ 12)) && (loB (x.cps.toList.getD 0 0) && x.cps.toList.all chB)
structure Dev where
  k : Str
  g : Int
  a : Int
  b : Int
  w : Int
  l : Int
deriving DecidableEq
def Dev.e (v : Dev) : D := .tup [.str v.k, .int v.g, .int v.a, .int v.b, .int v.w, .int v.l]
abbrev Nm := Int × Str
def nmE (q : Nm) : D := .tup [.int q.1, .str q.2]
structure DevOk (n : Int) (v : Dev) : Prop where
  k : v.k = ("n" : Str) ∨ v.k = ("p" : Str)
  g : 0 ≤ v.g ∧ v.g < n
  e : 0 ≤ v.a ∧ v.a ≤ v.b ∧ v.b < n
  w : 1 ≤ v.w
  l : 1 ≤ v.l
structure CirOk (n : Int) (N : List Nm) (V : List Dev) : Prop where
  nn : 0 ≤ n ∧ n ≤ 200
  nm : ∀ q ∈ N, (0 ≤ q.1 ∧ q.1 < n) ∧ nameB q.2 = true
  d1 : (N.map (·.1)).Nodup
  d2 : (N.map (·.2)).Nodup
  nl : N.length ≤ 1000
  vl : V.length ≤ 200
  dv : ∀ v ∈ V, DevOk n v
noncomputable def srtN (N : List Nm) : List Nm := srtK nmE N
theorem nm_py (q : Nm) : (nmE q).py = .tuple [.int q.1, .str q.2] := rfl
theorem nm_sort {A : Around} {N : List Nm} (hu : A.units + 64 < cLine) : KeyOk A nmE N := by
  refine ⟨fun q _ => rfl, fun d hd d' hd' => ?_, .inl fun d hd => ?_, fun q _ => ?_⟩
  · obtain ⟨q, _, rfl⟩ := List.mem_map.mp hd
    obtain ⟨q', _, rfl⟩ := List.mem_map.mp hd'
    simp [nm_py, alike, PySem.W.alikeAll]
  · obtain ⟨q, _, rfl⟩ := List.mem_map.mp hd
    exact ⟨_, _, rfl⟩
  · rw [nm_py]
    have : (PyData.tuple [.int q.1, .str q.2]).depth ≤ 8 := by simp [PyData.depth, PyData.depthAll]
    omega
theorem srtN_perm (N : List Nm) : (srtN N).Perm N := srtK_perm nmE N
theorem nm_le {p q : Nm} (h : dataLe false (fun b => (nmE b).py) p q = true) : p.1 ≤ q.1 := by
  refine Int.not_lt.mp fun hlt => ?_
  have e : PySem.W.dataLt (nmE q).py (nmE p).py = true := by
    rw [nm_py, nm_py, PySem.W.dataLt_pair (by simp [alike]) (by simp [alike]), if_neg, PySem.W.dataLt_int]
    · exact decide_eq_true hlt
    · simp only [PyData.eqv, beq_iff_eq]
      omega
  rw [PySem.W.dataLe_eq] at h
  change (!PySem.W.dataLt (nmE q).py (nmE p).py) = true at h
  rw [e] at h
  cases h
theorem srtN_le (N : List Nm) : (srtN N).Pairwise (fun p q => p.1 ≤ q.1) := by
  have : (srtN N).Pairwise (fun a b => dataLe false (fun b => (nmE b).py) a b = true) := PySem.W.sort_pairwise (PySem.W.sortLe_total _ false _) N
  exact this.imp fun h => nm_le h
theorem srtN_lt {N : List Nm} (h : (N.map (·.1)).Nodup) : (srtN N).Pairwise (fun p q => p.1 < q.1) := by
  have h2 : ((srtN N).map (·.1)).Nodup := ((srtN_perm N).map (·.1)).nodup_iff.mpr h
  have h3 : (srtN N).Pairwise (fun p q => p.1 ≠ q.1) := List.pairwise_map.mp h2
  exact ((srtN_le N).and h3).imp fun {a b} ⟨p, q⟩ => by omega
noncomputable abbrev cirV (n : Int) (N : List Nm) (V : List Dev) : List D := [.int n, .tup ((srtN N).map nmE), .tup (V.map Dev.e), .dk ((srtN N).map fun q => Sum.inl q.1) ((srtN N).map fun q => D.str q.2)]
noncomputable abbrev cirD (n : Int) (N : List Nm) (V : List Dev) : D := .obj "Circuit" ["net_count", "names", "devices", "_name_table"] (cirV n N V)
theorem at_first {x : Str} {k : Bool} (h : (!(decide ((1 : Int) ≤ (x.length : Int)) && k)) = false) : atI x.cps.toList 0 = some (x.cps.toList.getD 0 0) := by
  have h1 : 1 ≤ x.length := by
    simp only [Bool.not_eq_false', Bool.and_eq_true, decide_eq_true_eq] at h
    omega
  refine atI_nn (by decide) ?_
  have : (0 : Int).toNat < x.cps.toList.length := by rw [Array.length_toList]; exact h1
  rw [List.getElem?_eq_getElem this, List.getD_eq_getElem?_getD, List.getElem?_eq_getElem (by exact this)]
  rfl
theorem name_no {x : Str} (h : ((!(decide ((1 : Int) ≤ (x.length : Int)) && decide ((x.length : Int) ≤ 12))) || (!(decide (97 ≤ x.cps.toList.getD 0 0) && decide (x.cps.toList.getD 0 0 ≤ 122)))) = true) : nameB x = false := by
  unfold nameB loB
  rw [show decide (1 ≤ x.length) = decide ((1 : Int) ≤ (x.length : Int)) from decide_eq_decide.mpr (by omega), show decide (x.length ≤ 12) = decide ((x.length : Int) ≤ 12) from decide_eq_decide.mpr (by omega)]
  revert h
  generalize (decide ((1 : Int) ≤ (x.length : Int)) && decide ((x.length : Int) ≤ 12)) = p
  generalize (decide (97 ≤ x.cps.toList.getD 0 0) && decide (x.cps.toList.getD 0 0 ≤ 122)) = q
  cases p <;> cases q <;> simp
theorem name_yes {x : Str} (h : ((!(decide ((1 : Int) ≤ (x.length : Int)) && decide ((x.length : Int) ≤ 12))) || (!(decide (97 ≤ x.cps.toList.getD 0 0) && decide (x.cps.toList.getD 0 0 ≤ 122)))) = false) : nameB x = (x.cps.toList.map chB).all id := by
  unfold nameB loB
  rw [show decide (1 ≤ x.length) = decide ((1 : Int) ≤ (x.length : Int)) from decide_eq_decide.mpr (by omega), show decide (x.length ≤ 12) = decide ((x.length : Int) ≤ 12) from decide_eq_decide.mpr (by omega)]
  revert h
  generalize (decide ((1 : Int) ≤ (x.length : Int)) && decide ((x.length : Int) ≤ 12)) = p
  generalize (decide (97 ≤ x.cps.toList.getD 0 0) && decide (x.cps.toList.getD 0 0 ≤ 122)) = q
  cases p <;> cases q <;> simp [List.all_map]
def devB (n : Int) (v : Dev) : Bool := (decide (v.k ∈ (["n", "p"] : List Str)) && ((decide (0 ≤ v.g) && decide (v.g < n)) && ((decide (0 ≤ v.a) && (decide (v.a ≤ v.b) && decide (v.b < n))) && (decide (1 ≤ v.w) && decide (1 ≤ v.l)))))
theorem dev_ok {v : Dev} {n : Int} (h : DevOk n v) : (decide (v.k ∈ (["n", "p"] : List Str)) && ((decide (0 ≤ v.g) && decide (v.g < n)) && ((decide (0 ≤ v.a) && (decide (v.a ≤ v.b) && decide (v.b < n))) && (decide (1 ≤ v.w) && decide (1 ≤ v.l))))) = true := by
  have h1 : v.k ∈ (["n", "p"] : List Str) := by
    rcases h.k with e | e <;> rw [e] <;> simp
  simp [h1, h.g.1, h.g.2, h.e.1, h.e.2.1, h.e.2.2, h.w, h.l]
theorem bc_lenSeq {X : Cx} {d : D} {ds : List D} (h : SeqD d ds) : BC X (.builtin "len") [d] (.int ds.length) := by
  cases h with
  | lst => exact bc_lenL
  | tup => exact bc_lenT
theorem bc_tupSeq {X : Cx} {d : D} {ds : List D} (h : SeqD d ds) : BC X (.type "tuple") [d] (.tup ds) := by
  cases h with
  | lst => exact bc_tupL
  | tup => exact bc_tupT
def namesB (N : List Nm) (n : Int) : Bool := N.all (fun q => (decide (0 ≤ q.1) && decide (q.1 < n)) && nameB q.2) && (decide ((ddK (N.map fun q => Sum.inl q.1)).length = N.length) && decide ((ddK (N.map fun q => Sum.inr q.2)).length = N.length))
theorem namesB_eq (N : List Nm) (n : Int) : namesB N n = (((N.map fun q : Nm => (decide (0 ≤ q.1) && decide (q.1 < n)) && nameB q.2).all id) && (decide ((((ddK (N.map fun q : Nm => (Sum.inl q.1 : Key))).length : Nat) : Int) = ((N.map nmE).length : Int)) && decide ((((ddK (N.map fun q : Nm => (Sum.inr q.2 : Key))).length : Nat) : Int) = ((N.map nmE).length : Int)))) := by
  unfold namesB
  rw [List.all_map, List.length_map]
  rw [show decide ((ddK (N.map fun q => Sum.inl q.1)).length = N.length) = decide (((ddK (N.map fun q => Sum.inl q.1)).length : Int) = (N.length : Int)) from decide_eq_decide.mpr (by omega), show decide ((ddK (N.map fun q => Sum.inr q.2)).length = N.length) = decide (((ddK (N.map fun q => Sum.inr q.2)).length : Int) = (N.length : Int)) from decide_eq_decide.mpr (by omega)]
  rfl
theorem nameB_len {x : Str} (h : nameB x = true) : x.length ≤ 12 := by
  unfold nameB at h
  simp only [Bool.and_eq_true, decide_eq_true_eq] at h
  exact h.1.2
theorem CirOk.short {n : Int} {N : List Nm} {V : List Dev} (ok : CirOk n N V) : ∀ q ∈ N, q.2.length ≤ 1000 := fun q hq => by
  have := nameB_len (ok.nm q hq).2; omega
theorem nodup_inl {N : List Nm} (h : (N.map (·.1)).Nodup) : (N.map fun q : Nm => (Sum.inl q.1 : Key)).Nodup := by
  have : (N.map fun q : Nm => (Sum.inl q.1 : Key)) = (N.map (·.1)).map Sum.inl := by rw [List.map_map]; rfl
  rw [this]
  exact List.Pairwise.map _ (fun a b hab e => hab (Sum.inl.inj e)) h
theorem nodup_inr {N : List Nm} (h : (N.map (·.2)).Nodup) : (N.map fun q : Nm => (Sum.inr q.2 : Key)).Nodup := by
  have : (N.map fun q : Nm => (Sum.inr q.2 : Key)) = (N.map (·.2)).map Sum.inr := by rw [List.map_map]; rfl
  rw [this]
  exact List.Pairwise.map _ (fun a b hab e => hab (Sum.inr.inj e)) h
theorem CirOk.namesB {n : Int} {N : List Nm} {V : List Dev} (ok : CirOk n N V) : DL.namesB N n = true := by
  unfold DL.namesB
  rw [ddK_nodup _ (nodup_inl ok.d1), ddK_nodup _ (nodup_inr ok.d2), List.length_map, List.length_map]
  simp only [decide_true, Bool.and_true, List.all_eq_true, Bool.and_eq_true, decide_eq_true_eq]
  intro q hq
  exact ok.nm q hq
def nmK (q : Nm) : Key × D := (.inl q.1, .str q.2)
theorem nmK_D (N : List Nm) : N.map nmE = (N.map nmK).map prD := by rw [List.map_map]; rfl
theorem CirOk.keys {n : Int} {N : List Nm} {V : List Dev} (ok : CirOk n N V) : (((srtN N).map nmK).map (·.1)).Nodup := by
  rw [List.map_map]
  exact nodup_inl (((srtN_perm N).map (·.1)).nodup_iff.mpr ok.d1)
theorem cirWk {K : PySem.W.Frag} {n : Int} {N : List Nm} {W : List Dev} (H : Hp) (vs : List V) (h : DRs K H [.int n, .ptp ((srtN N).map nmE), .tup (W.map Dev.e), .dk (((srtN N).map nmK).map (·.1)) (((srtN N).map nmK).map (·.2))] vs) : DRs K H (cirV n N W) vs := by
  obtain ⟨v1, r1, rfl, h1, v2, r2, rfl, h2, v3, r3, rfl, h3, v4, r4, rfl, h4, h5⟩ := h
  rw [List.map_map, List.map_map] at h4
  exact ⟨v1, _, rfl, h1, v2, _, rfl, ptp_tup h2, v3, _, rfl, h3, v4, _, rfl, h4, h5⟩
end DL
namespace DL
open PySem PySem.Spec PyProof.Rows L2
section
variable {X : Cx} {ρ : En} {pos : Pos}
theorem bc_intB {k : Bool} : BC X (.type "int") [.bl k] (.int (if k = true then 1 else 0)) := bc_keep call_int1 _ (fun _ => rfl) fun _ _ vs _ _ r q => by
  obtain ⟨x, rfl, h⟩ := r.one'
  cases (show x = .bl k from h)
  exact .inr ⟨k, rfl, by cases k <;> exact q⟩
theorem bo_sorted2 {x y : Int} : BO X (.builtin "sorted") [.lst [.int x, .int y]] (.lst [.int (min x y), .int (max x y)]) := by
  have h := bo_sortedI (X := X) (ns := [x, y])
  have e : srtI [x, y] = [min x y, max x y] := by
    refine (srtI_eq ?_ ?_).symm
    · by_cases h : x ≤ y
      · rw [Int.min_eq_left h, Int.max_eq_right h]
      · rw [Int.min_eq_right (by omega), Int.max_eq_left (by omega)]
        exact List.Perm.swap _ _ _
    · simp; omega
  rw [e] at h
  exact h
theorem c2_inInts {i : Int} {ns : List Int} : C2 X .In (.int i) (.lst (ns.map .int)) (.bl (decide (i ∈ ns))) := ⟨_, op_in_seq, fun H0 H u v Q s r1 r2 k => by
  cases (show u = .int i from r1)
  obtain ⟨a, vs, rfl, h1, h2⟩ := r2
  rw [DRs.ints h2] at h1
  have hi : inV (.int i) (ns.map V.int) = decide (i ∈ ns) := by
    unfold inV
    rw [Bool.eq_iff_iff]
    simp only [List.any_eq_true, List.mem_map, decide_eq_true_eq]
    constructor
    · rintro ⟨v, ⟨y, hy, rfl⟩, h⟩
      have : y = i := by simpa [eqV] using h
      exact this ▸ hy
    · intro h
      exact ⟨.int i, ⟨i, h, rfl⟩, by simp [eqV]⟩
  refine ⟨a, _, rfl, .inl (s.seq h1), rfl, by simp [flatV], ?_⟩
  rw [hi]
  exact k _ H0 H (JH.refl s) rfl⟩
end
end DL
namespace DL
open PySem PySem.Spec PyProof.Rows L2
def nmPre (d : Int) : Str := cutS (nmOf d) none (some 7)
def qStr (d : Int) (net : Nat) : Str := (nmPre d ++ ("k" : Str)) ++ (Str.ofString (toString (net : Int)))
def preOk (x : Str) : Bool := (decide (1 ≤ x.length) && decide (x.length ≤ 4)) && (loB (x.cps.toList.getD 0 0) && x.cps.toList.all chB)
theorem pre_all : ∀ a : Fin 26, ∀ b : Fin 6, preOk (cutS ((⟨#[ltr.cps.toList.getD a.val 0]⟩ : Str) ++ tls.getD b.val "") none (some 7)) = true := by decide +kernel
theorem pre_ok (d : Int) : preOk (nmPre d) = true := by
  have h1 : (d % 26).toNat < 26 := by omega
  have h2 : (d / 26 % 6).toNat < 6 := by omega
  exact pre_all ⟨_, h1⟩ ⟨_, h2⟩
def digB (c : Nat) : Bool := decide (48 ≤ c) && decide (c ≤ 57)
theorem dig_all : ∀ a : Fin 64, let x := Str.ofString (toString ((a.val : Nat) : Int)); (decide (1 ≤ x.length) && decide (x.length ≤ 2) && x.cps.toList.all digB) = true := by decide +kernel
theorem dig_inj : ∀ a b : Fin 64, (Str.ofString (toString ((a.val : Nat) : Int))).cps.toList = (Str.ofString (toString ((b.val : Nat) : Int))).cps.toList → a = b := by decide +kernel
theorem all_app {x y : Str} {p : Nat → Bool} : (x ++ y).cps.toList.all p = (x.cps.toList.all p && y.cps.toList.all p) := by
  show (x.cps ++ y.cps).toList.all p = _
  rw [Array.toList_append, List.all_append]
theorem len_app (x y : Str) : (x ++ y).length = x.length + y.length := Array.size_append
theorem cps_app (x y : Str) : (x ++ y).cps.toList = x.cps.toList ++ y.cps.toList := by
  show (x.cps ++ y.cps).toList = _
  rw [Array.toList_append]
theorem dig_ok {n : Nat} (h : n < 64) : (1 ≤ (Str.ofString (toString (n : Int))).length ∧ (Str.ofString (toString (n : Int))).length ≤ 2) ∧ (Str.ofString (toString (n : Int))).cps.toList.all digB = true := by
  have := dig_all ⟨n, h⟩
  simp only [Bool.and_eq_true, decide_eq_true_eq] at this
  exact this
theorem chB_of {c : Nat} (h : digB c = true) : chB c = true := by
  unfold chB; unfold digB at h; rw [h, Bool.or_true]
theorem qStr_ok (d : Int) {n : Nat} (h : n < 64) : nameB (qStr d n) = true := by
  have h1 := pre_ok d
  have h2 := dig_ok h
  unfold preOk at h1
  simp only [Bool.and_eq_true, decide_eq_true_eq] at h1
  obtain ⟨⟨l1, l2⟩, f, a⟩ := h1
  have lk : ("k" : Str).length = 1 := by decide +kernel
  have ak : ("k" : Str).cps.toList.all chB = true := by decide +kernel
  unfold nameB qStr
  rw [len_app, len_app, lk, all_app, all_app, a, ak, cps_app, cps_app]
  have hne : (nmPre d).cps.toList ≠ [] := fun e => by
    have : (nmPre d).cps.toList.length = 0 := by rw [e]; rfl
    rw [Array.length_toList] at this
    have l1' : 1 ≤ (nmPre d).cps.size := l1
    omega
  have hf : ((nmPre d).cps.toList ++ ("k" : Str).cps.toList ++ (Str.ofString (toString (n : Int))).cps.toList).getD 0 0 = (nmPre d).cps.toList.getD 0 0 := by
    cases q : (nmPre d).cps.toList with
    | nil => exact absurd q hne
    | cons c r => rfl
  rw [hf, f]
  have hd : (Str.ofString (toString (n : Int))).cps.toList.all chB = true := List.all_eq_true.mpr fun c hc => chB_of (List.all_eq_true.mp h2.2 c hc)
  rw [hd]
  simp only [Bool.and_true, Bool.and_eq_true, decide_eq_true_eq]
  omega
theorem tail_eq {x : Nat} {P P' D D' : List Nat} (hD : ∀ c ∈ D, c ≠ x) (hD' : ∀ c ∈ D', c ≠ x) (h : P ++ x :: D = P' ++ x :: D') : D = D' := by
  have h1 : ∀ (P D : List Nat), (∀ c ∈ D, c ≠ x) → ((P ++ x :: D).reverse.takeWhile (fun c => decide (c ≠ x))) = D.reverse := fun P D hD => by
    rw [List.reverse_append, List.reverse_cons, List.append_assoc, List.takeWhile_append_of_pos]
    · simp
    · intro c hc
      exact decide_eq_true (hD c (List.mem_reverse.mp hc))
  have := congrArg (fun l => l.reverse.takeWhile (fun c => decide (c ≠ x))) h
  simp only [h1 P D hD, h1 P' D' hD'] at this
  exact List.reverse_inj.mp this
theorem qStr_inj {d d' : Int} {n n' : Nat} (h : n < 64) (h' : n' < 64) (e : qStr d n = qStr d' n') : n = n' := by
  have e1 := congrArg (fun z : Str => z.cps.toList) e
  unfold qStr at e1
  simp only [cps_app] at e1
  have ek : ("k" : Str).cps.toList = [107] := by decide +kernel
  rw [ek, List.append_assoc, List.append_assoc] at e1
  have no : ∀ {m : Nat}, m < 64 → ∀ c ∈ (Str.ofString (toString (m : Int))).cps.toList, c ≠ 107 := fun {m} hm c hc => by
    have := List.all_eq_true.mp (dig_ok hm).2 c hc
    unfold digB at this
    simp only [Bool.and_eq_true, decide_eq_true_eq] at this
    omega
  have e2 := tail_eq (no h) (no h') e1
  have := dig_inj ⟨n, h⟩ ⟨n', h'⟩ e2
  exact congrArg Fin.val this
def qCnt (c nets most : Int) : Int := dr c (5 * most + nets + 2) 0 % (nets + 1)
def qNm (c M : Int) (net : Nat) : Option Nm := if dr c M (2 + (net : Int)) % 3 = 0 then some ((net : Int), qStr (dr c M (2 + (net : Int)) / 3) net) else none
def qN (c M : Int) (i : Nat) : List Nm := (List.range i).filterMap (qNm c M)
theorem qN_yes {c M : Int} {i : Nat} (h : dr c M (2 + (i : Int)) % 3 = 0) : qN c M (i + 1) = qN c M i ++ [((i : Int), qStr (dr c M (2 + (i : Int)) / 3) i)] := by
  unfold qN
  rw [List.range_succ, List.filterMap_append]
  simp [qNm, h]
theorem qN_no {c M : Int} {i : Nat} (h : ¬ dr c M (2 + (i : Int)) % 3 = 0) : qN c M (i + 1) = qN c M i := by
  unfold qN
  rw [List.range_succ, List.filterMap_append]
  simp [qNm, h]
theorem qN_len (c M : Int) (i : Nat) : (qN c M i).length ≤ i := by
  refine Nat.le_trans (List.length_filterMap_le _ _) ?_
  rw [List.length_range]
  exact Nat.le_refl i
theorem qN_mem {c M : Int} {i : Nat} {q : Nm} (h : q ∈ qN c M i) : ∃ n : Nat, n < i ∧ q.1 = (n : Int) ∧ ∃ d, q.2 = qStr d n := by
  unfold qN at h
  obtain ⟨n, h1, h2⟩ := List.mem_filterMap.mp h
  unfold qNm at h2
  split at h2
  · cases h2; exact ⟨n, List.mem_range.mp h1, rfl, _, rfl⟩
  · cases h2
theorem qN_lt (c M : Int) : ∀ i : Nat, (qN c M i).Pairwise (fun p q => p.1 < q.1)
  | 0 => List.Pairwise.nil
  | i + 1 => by
    by_cases h : dr c M (2 + (i : Int)) % 3 = 0
    · rw [qN_yes h, List.pairwise_append]
      refine ⟨qN_lt c M i, List.pairwise_singleton _ _, fun a ha b hb => ?_⟩
      rw [List.mem_singleton] at hb
      subst hb
      obtain ⟨n, h1, h2, _⟩ := qN_mem ha
      rw [h2]
      show (n : Int) < (i : Int)
      omega
    · rw [qN_no h]; exact qN_lt c M i
def kindOf (r : Int) : Str := if r % 2 = 0 then "n" else "p"
def qD (c M nets cnt : Int) (k : Nat) : Dev :=
  ⟨kindOf (dr c M (nets + 2 + 5 * (k : Int) + 0)), dr c M (nets + 2 + 5 * (k : Int) + 1) % cnt, min (dr c M (nets + 2 + 5 * (k : Int) + 2) % cnt) (dr c M (nets + 2 + 5 * (k : Int) + 3) % cnt), max (dr c M (nets + 2 + 5 * (k : Int) + 2) % cnt) (dr c M (nets + 2 + 5 * (k : Int) + 3) % cnt), 1 + dr c M (nets + 2 + 5 * (k : Int) + 4) % 3, 1 + dr c M (nets + 2 + 5 * (k : Int) + 4) / 3 % 2⟩
def qV (c M nets cnt : Int) (i : Nat) : List Dev := (List.range i).map (qD c M nets cnt)
theorem qV_succ (c M nets cnt : Int) (i : Nat) : qV c M nets cnt (i + 1) = qV c M nets cnt i ++ [qD c M nets cnt i] := by
  unfold qV; rw [List.range_succ, List.map_append]; rfl
theorem qV_len (c M nets cnt : Int) (i : Nat) : (qV c M nets cnt i).length = i := by unfold qV; rw [List.length_map, List.length_range]
def qm (c nets most : Int) : Nat := if 0 < qCnt c nets most then (dr c (5 * most + nets + 2) 1 % (most + 1)).toNat else 0
theorem qm_le (c nets most : Int) (h : 0 ≤ most) : (qm c nets most : Int) ≤ most := by
  unfold qm
  split
  · have h1 := Int.emod_nonneg (dr c (5 * most + nets + 2) 1) (b := most + 1) (by omega)
    have h2 := Int.emod_lt_of_pos (dr c (5 * most + nets + 2) 1) (b := most + 1) (by omega)
    omega
  · simpa using h
theorem qm_pos {c nets most : Int} {k : Nat} (h : k < qm c nets most) : 0 < qCnt c nets most := by
  unfold qm at h
  split at h
  · assumption
  · omega
theorem qCnt_lo {c nets most : Int} (h : 0 ≤ nets) : 0 ≤ qCnt c nets most ∧ qCnt c nets most ≤ nets := by
  unfold qCnt
  have h1 := Int.emod_nonneg (dr c (5 * most + nets + 2) 0) (b := nets + 1) (by omega)
  have h2 := Int.emod_lt_of_pos (dr c (5 * most + nets + 2) 0) (b := nets + 1) (by omega)
  omega
def cN (c nets most : Int) : List Nm := qN c (5 * most + nets + 2) (qCnt c nets most).toNat
def cV (c nets most : Int) : List Dev := qV c (5 * most + nets + 2) nets (qCnt c nets most) (qm c nets most)
theorem qcir_ok {c nets most : Int} (h1 : 0 ≤ nets ∧ nets ≤ 60) (h2 : 0 ≤ most ∧ most ≤ 60) : CirOk (qCnt c nets most) (cN c nets most) (cV c nets most) := by
  have hc := qCnt_lo (c := c) (most := most) h1.1
  have hm := qm_le c nets most h2.1
  have lt := qN_lt c (5 * most + nets + 2) (qCnt c nets most).toNat
  refine ⟨by omega, fun q hq => ?_, ?_, ?_, ?_, ?_, fun v hv => ?_⟩
  · obtain ⟨n, hn, e, d, e2⟩ := qN_mem hq
    rw [e, e2]
    exact ⟨by omega, qStr_ok d (by omega)⟩
  · exact List.pairwise_map.mpr (lt.imp fun h e => by omega)
  · refine List.pairwise_map.mpr (List.Pairwise.imp_of_mem (fun {a b} ha hb h e => ?_) lt)
    obtain ⟨n, hn, e1, d, e2⟩ := qN_mem ha
    obtain ⟨n', hn', e1', d', e2'⟩ := qN_mem hb
    rw [e2, e2'] at e
    have := qStr_inj (by omega) (by omega) e
    omega
  · have := qN_len c (5 * most + nets + 2) (qCnt c nets most).toNat
    show (qN _ _ _).length ≤ 1000
    omega
  · show (qV _ _ _ _ _).length ≤ 200
    rw [qV_len]; omega
  · unfold cV qV at hv
    obtain ⟨k, hk, rfl⟩ := List.mem_map.mp hv
    have hp := qm_pos (List.mem_range.mp hk)
    have md : ∀ x : Int, 0 ≤ x % qCnt c nets most ∧ x % qCnt c nets most < qCnt c nets most := fun x => ⟨Int.emod_nonneg _ (by omega), Int.emod_lt_of_pos _ hp⟩
    have a1 := md (dr c (5 * most + nets + 2) (nets + 2 + 5 * (k : Int) + 1))
    have a2 := md (dr c (5 * most + nets + 2) (nets + 2 + 5 * (k : Int) + 2))
    have a3 := md (dr c (5 * most + nets + 2) (nets + 2 + 5 * (k : Int) + 3))
    refine ⟨?_, a1, ?_, ?_, ?_⟩
    · unfold qD kindOf
      simp only
      split
      · exact .inl rfl
      · exact .inr rfl
    · unfold qD
      simp only
      omega
    · unfold qD
      simp only
      omega
    · unfold qD
      simp only
      omega
theorem cut5 {c M lo : Int} (h0 : 0 ≤ lo) (h : lo + 5 ≤ M) : cutD ((draws c M).map D.int) (some lo) (some (lo + 5)) = [.int (dr c M (lo + 0)), .int (dr c M (lo + 1)), .int (dr c M (lo + 2)), .int (dr c M (lo + 3)), .int (dr c M (lo + 4))] := by
  have hl : ((draws c M).map D.int).length = M.toNat := by rw [List.length_map, draws_len]
  have e1 : HT.sIx ((draws c M).map D.int).length 0 (some lo) = lo.toNat := by
    rw [hl]
    show (if lo < 0 then _ else min lo.toNat M.toNat) = _
    rw [if_neg (by omega)]; omega
  have e2 : HT.sIx ((draws c M).map D.int).length ((draws c M).map D.int).length (some (lo + 5)) = lo.toNat + 5 := by
    rw [hl]
    show (if lo + 5 < 0 then _ else min (lo + 5).toNat M.toNat) = _
    rw [if_neg (by omega)]; omega
  unfold cutD
  rw [e1, e2, show lo.toNat + 5 - lo.toNat = 5 by omega]
  refine List.ext_getElem? fun i => ?_
  by_cases hi : i < 5
  · rw [List.getElem?_take_of_lt hi, List.getElem?_drop, List.getElem?_map]
    have : (draws c M)[lo.toNat + i]? = some (dr c M (lo + (i : Int))) := by
      have := dr_get (c := c) (n := M) (k := lo + (i : Int)) (by omega) (by omega)
      rw [show (lo + (i : Int)).toNat = lo.toNat + i by omega] at this
      exact this
    rw [this]
    match i, hi with
    | 0, _ => rfl
    | 1, _ => rfl
    | 2, _ => rfl
    | 3, _ => rfl
    | 4, _ => rfl
  · rw [List.getElem?_eq_none (by simp; omega), List.getElem?_eq_none (by simp; omega)]
theorem ix_kind (r : Int) : IX (.lst [.str "n", .str "p"]) (.int (r % 2)) (.str (kindOf r)) := by
  unfold kindOf
  have : r % 2 = 0 ∨ r % 2 = 1 := by omega
  rcases this with h | h
  · rw [h, if_pos rfl]; exact IX.l0
  · rw [h, if_neg (by decide)]; exact IX.l1
theorem nmOf_len (d : Int) : (nmOf d).length ≤ sizeLine := by
  have h := tls_len (d / 26 % 6).toNat
  unfold nmOf
  rw [len_app, sizeLine_eq]
  have : (⟨#[ltr.cps.toList.getD (d % 26).toNat 0]⟩ : Str).length = 1 := rfl
  omega
theorem pre_len (d : Int) : (nmPre d).length ≤ 4 := by
  have h1 := pre_ok d
  unfold preOk at h1
  simp only [Bool.and_eq_true, decide_eq_true_eq] at h1
  exact h1.1.2
theorem q1_len (d : Int) : (cutS (nmOf d) none (some 7)).length + (Str.ofString "k").length ≤ sizeLine := by
  have := pre_len d
  have lk : ("k" : Str).length = 1 := by decide +kernel
  show (nmPre d).length + ("k" : Str).length ≤ sizeLine
  rw [lk, sizeLine_eq]; omega
theorem q2_len (d : Int) {n : Nat} (h : n < 64) : (cutS (nmOf d) none (some 7) ++ Str.ofString "k").length + (Str.ofString (toString (n : Int))).length ≤ sizeLine := by
  have := pre_len d
  have h2 := dig_ok h
  have lk : ("k" : Str).length = 1 := by decide +kernel
  show (nmPre d ++ ("k" : Str)).length + _ ≤ sizeLine
  rw [len_app, lk, sizeLine_eq]; omega
theorem log_small {n m : Nat} (h : n < m) (hm : m ≤ 100) : ((n : Int)).natAbs.log2 < 1920 := by
  rw [Int.natAbs_natCast]
  by_cases h0 : n = 0
  · subst h0; decide
  · rw [Nat.log2_lt h0]
    have : n < 2 ^ 7 := by omega
    exact Nat.lt_of_lt_of_le this (Nat.pow_le_pow_right (by decide) (show 7 ≤ 1920 by omega))
theorem qm_mul {c nets most : Int} (h : 0 ≤ most) : dr c (5 * most + nets + 2) 1 % (most + 1) * (if decide (0 < dr c (5 * most + nets + 2) 0 % (nets + 1)) = true then 1 else 0) = ((qm c nets most : Nat) : Int) := by
  unfold qm
  have h1 := Int.emod_nonneg (dr c (5 * most + nets + 2) 1) (b := most + 1) (by omega)
  by_cases hp : 0 < dr c (5 * most + nets + 2) 0 % (nets + 1)
  · rw [if_pos (decide_eq_true hp), if_pos (show 0 < qCnt c nets most from hp), Int.mul_one, Int.toNat_of_nonneg h1]
  · rw [if_neg (by simpa using hp), if_neg (show ¬ 0 < qCnt c nets most from hp), Int.mul_zero]; rfl
end DL
namespace DL
open PySem PySem.Spec PyProof.Rows L2
section
variable {X : Cx} {ρ : En} {elt tg iter : Expr} {scope : Scope} {ds : List D} {cpos pos : Pos} {Φ : Out → Prop}
variable {e a b : Expr} {d : D}
theorem drs_rep {K : PySem.W.Frag} {H : Hp} {ds : List D} {vs : List V} (h : DRs K H ds vs) : ∀ k : Nat, DRs K H (List.replicate k ds).flatten (List.replicate k vs).flatten
  | 0 => rfl
  | k + 1 => by
    rw [List.replicate_succ, List.replicate_succ, List.flatten_cons, List.flatten_cons]
    exact DRs.app h (drs_rep h k)
/-- xs * n, xs a new list -/
theorem eo_rep {n : Int} (ha : EO X ρ a (.lst ds)) (hb : ED X ρ b (.int n)) (h0 : 0 ≤ n) (h1 : n ≤ 1000000) (hl : ds.length * n.toNat ≤ sizeLine) : EO X ρ (.BinOp a .Mult b pos) (.lst (List.replicate n.toNat ds).flatten) := fun B0 B σ H0 H Q j k =>
  RE.of (pe_op op_rep pe_star pe_star) (ha B0 B σ H0 H _ j fun q o G0 G g w1 w2 w3 w4 => hb B0 B σ G0 G _ (j.grow g) fun w L0 L g2 r2 => by
    obtain ⟨vs, rfl, r⟩ := w4
    have gg := g.trans g2
    exact ⟨q, n, vs, rfl, r2, g2.sB _ _ w1, by omega, by omega, by rw [← DRs.length r]; exact hl, fun p hp => k p _ L0 _ (gg.trans (JH.own gg.sh hp)) upd_same (gg.sh.free hp) (gg.sB.free hp) ⟨_, rfl, drs_rep (DRs.mono g2.s0 _ _ r) _⟩⟩)
end
end DL
namespace DL
open PySem PySem.Spec PyProof.Rows L2
local instance (priority := 2000) keyBEq26 : BEq Key := instBEqOfDecidableEq
end DL
namespace DL
open PySem PySem.Spec PyProof.Rows L2
/-- behind an except suite, its name is gone -/
def Aft (i : Nat) (Φ : Out → Prop) : Out → Prop
  | .nx ρ => Φ (.nx (ρ.set i .no))
  | .bk ρ => Φ (.bk (ρ.set i .no))
  | .ct ρ => Φ (.ct (ρ.set i .no))
  | o => Φ o
section
variable {X : Cx} {ρ ρx : En} {pos : Pos} {Φ : Out → Prop}
/-- try: body, where nothing is raised -/
theorem ws_try0 {body : List Stmt} {h0 : ExceptHandler} {hs : List ExceptHandler} (h : WSs X body ρ Φ) (hx : X.nox = X := by rfl) : WS X (.Try body (h0 :: hs) [] [] pos) ρ Φ := fun B0 B σ H0 H Dn j k =>
  ⟨_, ps_try_thru0 (t := RSs X body) (by rw [hx]; exact pss_star), h B0 B σ H0 H Dn j k⟩
end
end DL
namespace DL
open PySem PySem.Spec PyProof.Rows L2
/-- the class named cn is caught by except xn -/
structure Xm (K : PySem.W.Frag) (mg : Str → Option Value) (cn xn : Str) : Prop where
  ex : ∃ C D, PySem.W.nsIn K mainGlobals cn = some (some (.ref C)) ∧ mg xn = some (.ref D) ∧ PySem.W.exmOne K (.ref C) (.ref D) = some true
/-- isinstance(e, c), e of the class named cn -/
structure Xi (K : PySem.W.Frag) (mg : Str → Option Value) (cn c : Str) (b : Bool) : Prop where
  ex : ∃ C D, PySem.W.nsIn K mainGlobals cn = some (some (.ref C)) ∧ mg c = some (.ref D) ∧ PySem.W.kitOne K (.ref C) (.ref D) = some b
mutual
def noL : D → Bool
  | .lst _ => false
  | .tup ds => noLs ds
  | .dk _ ds => noLs ds
  | .dt _ ds => noLs ds
  | .obj _ _ ds => noLs ds
  | .ptp ds => noLs ds
  | .etp ds => noLs ds
  | .exc _ _ _ ds => noLs ds
  | _ => true
def noLs : List D → Bool
  | [] => true
  | d :: ds => noL d && noLs ds
end
theorem er_rd {H : Hp} {a : Addr} {xs : List V} (h : H a = some (.lst xs)) {b : Addr} {u : HO} (hu : ∀ ys, u ≠ .lst ys) (r : Rd H b u) : Rd (er H a) b u := by
  rcases r with r | ⟨o, r⟩
  · have : b ≠ a := fun e => by subst e; rw [h] at r; cases r; exact hu _ rfl
    exact .inl (by rw [er_ne this]; exact r)
  · have : b ≠ a := fun e => by subst e; rw [h] at r; cases r
    exact .inr ⟨o, by rw [er_ne this]; exact r⟩
theorem er_sqT {K : PySem.W.Frag} {H : Hp} {a : Addr} {xs : List V} (h : H a = some (.lst xs)) {b : Addr} {vs : List V} (r : SqT K H b vs) : SqT K (er H a) b vs := by
  rcases r with r | r
  · exact .inl (er_rd h (fun _ z => by cases z) r)
  · exact .inr r
mutual
theorem er_dr {K : PySem.W.Frag} {H : Hp} {a : Addr} {xs : List V} (h : H a = some (.lst xs)) : ∀ (d : D) (v : V), noL d = true → DR K H d v → DR K (er H a) d v
  | .non, v, _, r => r
  | .bl _, v, _, r => r
  | .int _, v, _, r => r
  | .str _, v, _, r => r
  | .ty _, v, _, r => r
  | .lst _, v, n, _ => by cases n
  | .tup ds, v, n, r => by
    obtain ⟨b, vs, h1, h2, h3⟩ := r
    exact ⟨b, vs, h1, er_sqT h h2, er_drs h ds vs n h3⟩
  | .dk ks ds, v, n, r => by
    obtain ⟨b, vs, h1, h2, h4, h3⟩ := r
    exact ⟨b, vs, h1, er_rd h (fun _ z => by cases z) h2, h4, er_drs h ds vs n h3⟩
  | .dt ks ds, v, n, r => by
    obtain ⟨b, vs, h1, h2, h4, h3⟩ := r
    exact ⟨b, vs, h1, er_rd h (fun _ z => by cases z) h2, h4, er_drs h ds vs n h3⟩
  | .obj cn ns ds, v, n, r => by
    obtain ⟨b, C, dx, vs, h1, hn, h2, h4, h3⟩ := r
    have : b ≠ a := fun e => by subst e; rw [h] at h2; cases h2
    exact ⟨b, C, dx, vs, h1, hn, by rw [er_ne this]; exact h2, h4, er_drs h ds vs n h3⟩
  | .ad _, v, _, r => r
  | .exc _ x ns ds, v, n, r => by
    obtain ⟨h1, vs, h2, h4, h3⟩ := r
    have : x ≠ a := fun e => by subst e; rw [h] at h2; cases h2
    exact ⟨h1, vs, by rw [er_ne this]; exact h2, h4, er_drs h ds vs n h3⟩
  | .etp ds, v, n, r => by
    obtain ⟨b, vs, h1, h2, h3⟩ := r
    have : b ≠ a := fun e => by subst e; rw [h] at h2; cases h2
    exact ⟨b, vs, h1, by rw [er_ne this]; exact h2, er_drs h ds vs n h3⟩
  | .ptp ds, v, n, r => by
    obtain ⟨b, o, vs, h1, h2, h4, h3⟩ := r
    have : b ≠ a := fun e => by subst e; rw [h] at h2; cases h2
    exact ⟨b, o, vs, h1, by rw [er_ne this]; exact h2, h4, er_drs h ds vs n h3⟩
theorem er_drs {K : PySem.W.Frag} {H : Hp} {a : Addr} {xs : List V} (h : H a = some (.lst xs)) : ∀ (ds : List D) (vs : List V), noLs ds = true → DRs K H ds vs → DRs K (er H a) ds vs
  | [], vs, _, r => r
  | d :: ds, vs, n, r => by
    obtain ⟨v, w, h1, h2, h3⟩ := r
    have n' : (noL d && noLs ds) = true := n
    rw [Bool.and_eq_true] at n'
    exact ⟨v, w, h1, er_dr h d v n'.1 h2, er_drs h ds w n'.2 h3⟩
end
end DL
namespace DL
open PySem PySem.Spec PyProof.Rows L2
theorem kit_ty {K : PySem.W.Frag} {C : Addr} {T : String} {b : Bool} (h4 : PySem.W.subIn K (.ref C) (.type T) = some b) (hm : PySem.W.kitMeta T = true := by decide +kernel) : PySem.W.kitOne K (.ref C) (.type T) = some b := by
  unfold PySem.W.kitOne
  rw [if_neg (show ¬ ((Value.ref C == Value.type T) = true) from Bool.false_ne_true)]
  show (if PySem.W.kitMeta T = true then PySem.W.subIn K (.ref C) (.type T) else none) = some b
  rw [if_pos hm]; exact h4
end DL
namespace DL
open PySem PySem.Spec PyProof.Rows L2
def layN : List Str := ["well", "active", "poly", "contact", "metal", "via", "top"]
def labN : List Str := ["active", "poly", "metal", "top"]
abbrev Shp := Str × Bx
def shB (s : Shp) : Bool := decide (s.1 ∈ layN) && (decide (s.2.a < s.2.c) && decide (s.2.b < s.2.d))
structure Lab where
  n : Str
  l : Str
  x : Int
  y : Int
def Lab.e (v : Lab) : D := .tup [.str v.n, .str v.l, .int v.x, .int v.y]
def labB (v : Lab) : Bool := nameB v.n && decide (v.l ∈ labN)
structure Pla where
  n : Str
  t : Int
  dx : Int
  dy : Int
  c : Int
  r : Int
  sx : Int
  sy : Int
def Pla.e (v : Pla) : D := .tup [.str v.n, .tup [.int v.t, .int v.dx, .int v.dy], .int v.c, .int v.r, .int v.sx, .int v.sy]
def plaB (v : Pla) : Bool := nameB v.n && ((decide (0 ≤ v.t) && decide (v.t < 8)) && ((decide (1 ≤ v.c) && decide (v.c ≤ 100)) && (decide (1 ≤ v.r) && decide (v.r ≤ 100))))
def celB (n : Str) (S : List Shp) (L : List Lab) (P : List Pla) : Bool := nameB n && (S.all shB && (L.all labB && P.all plaB))
structure CelOk (n : Str) (S : List Shp) (L : List Lab) (P : List Pla) : Prop where
  n : nameB n = true
  s : ∀ x ∈ S, shB x = true
  l : ∀ x ∈ L, labB x = true
  p : ∀ x ∈ P, plaB x = true
theorem CelOk.b {n : Str} {S : List Shp} {L : List Lab} {P : List Pla} (ok : CelOk n S L P) : celB n S L P = true := by
  unfold celB
  rw [ok.n, List.all_eq_true.mpr ok.s, List.all_eq_true.mpr ok.l, List.all_eq_true.mpr ok.p]; rfl
def MD : Nat → D → Prop
  | 0, d => (∃ i, d = .int i) ∨ ∃ z, d = .str z
  | k + 1, d => ((∃ i, d = .int i) ∨ ∃ z, d = .str z) ∨ ∃ es, d = .tup es ∧ es.length ≤ 1000 ∧ ∀ e ∈ es, MD k e
class MdC (k : Nat) (d : D) (P : outParam Prop) where
  out : MD k d → P
instance (d : D) : MdC 0 d ((∃ i, d = .int i) ∨ ∃ z, d = .str z) := ⟨fun h => h⟩
instance (k : Nat) (d : D) : MdC (k + 1) d ((∃ i, d = .int i) ∨ (∃ z, d = .str z) ∨ ∃ es, d = .tup es ∧ es.length ≤ 1000 ∧ ∀ e ∈ es, MD k e) := ⟨fun h => by
  rcases h with (h | h) | h
  · exact .inl h
  · exact .inr (.inl h)
  · exact .inr (.inr h)⟩
theorem getD_mem {α : Type} {xs : List α} {i : Int} {a : α} (h : 0 ≤ i ∧ i < xs.length) : xs.getD i.toNat a ∈ xs := by
  have hi : i.toNat < xs.length := by omega
  rw [List.getD_eq_getElem?_getD, List.getElem?_eq_getElem hi]
  exact List.getElem_mem hi
structure Rw where
  n : Str
  S : List Shp
  L : List Lab
  P : List Pla
theorem MD.up : ∀ {k : Nat} {d : D}, MD k d → MD (k + 1) d
  | 0, d, h => .inl h
  | k + 1, d, h => by
    rcases h with h | ⟨es, e, h1, h2⟩
    · exact .inl h
    · exact .inr ⟨es, e, h1, fun x hx => MD.up (h2 x hx)⟩
def nmX (n : Str) (d : Int) : Str := ([n, "abcdefgh1234", "q"] : List Str).getD (d % 3).toNat ""
theorem nmX_ok {n : Str} {d : Int} (h : nameB n = true) : nameB (nmX n d) = true := by
  have hm := getD_mem (xs := ([n, "abcdefgh1234", "q"] : List Str)) (i := d % 3) (a := "") (by show _ ∧ _ < (3 : Int); omega)
  have hm2 : nmX n d ∈ ([n, "abcdefgh1234", "q"] : List Str) := hm
  simp only [List.mem_cons, List.not_mem_nil, or_false] at hm2
  rcases hm2 with e | e | e <;> rw [e]
  · exact h
  · decide +kernel
  · decide +kernel
def zzP (d : Int) : Pla := ⟨"zz", 7, 100000000000000000000, -5, 100, 1 + d % 100, -d, 1000000000000000⟩
theorem zzP_ok (d : Int) : plaB (zzP d) = true := by
  unfold plaB
  rw [show nameB (zzP d).n = true from (by decide +kernel : nameB "zz" = true)]
  simp only [Bool.true_and, Bool.and_eq_true, decide_eq_true_eq]
  exact ⟨⟨by show (0 : Int) ≤ 7; decide, by show (7 : Int) < 8; decide⟩, ⟨by show (1 : Int) ≤ 100; decide, by show (100 : Int) ≤ 100; decide⟩, show 1 ≤ 1 + d % 100 by omega, show 1 + d % 100 ≤ 100 by omega⟩
theorem CelOk.more {n : Str} {S : List Shp} {L : List Lab} {P : List Pla} (ok : CelOk n S L P) (d : Int) : CelOk (nmX n d) S L (P ++ [zzP d]) := ⟨nmX_ok ok.n, ok.s, ok.l, fun x hx => by
  rcases List.mem_append.mp hx with h | h
  · exact ok.p x h
  · rw [List.mem_singleton] at h; subst h; exact zzP_ok d⟩
end DL
namespace DL
open PySem PySem.Spec PyProof.Rows L2
abbrev PW := List (List Key × Int)
end DL
namespace DL
open PySem PySem.Spec PyProof.Rows L2
abbrev Cs := List (Addr × OC)
abbrev pl (cs : Cs) : List Addr := cs.map (·.1)
section
variable {K : PySem.W.Frag} {B0 B H0 H H0' H' : Hp} {σ : L2.St} {ρ : En}
/-- what a slot owns, in another order -/
theorem J.perm (j : J K B0 B σ H0 H ρ) {i : Nat} {cs cs' : Cs} {d : D} (h : ρ[i]? = some (.ox cs d)) (p : cs.Perm cs') : J K B0 B σ H0 H (ρ.set i (.ox cs' d)) := by
  obtain ⟨ov, e1, f1, f2, f3⟩ := j.get h
  exact j.setSl (s := .ox cs' d) e1 ⟨f1, fun q hq => f2 q (p.mem_iff.mpr hq), (p.map _).nodup_iff.mp f3⟩ (j.sub h e1 fun a w => by
    have w' : a ∈ cs'.map (·.1) := w
    exact (p.map (·.1)).mem_iff.mpr w')
end
def enL (N : List Str) (cs : Cs) (a : Addr) (ds : List D) : En := .ox cs (.ad a) :: (ds.map Sl.sh ++ List.replicate (N.length - (ds.length + 1)) Sl.no)
end DL
namespace DL
open PySem PySem.Spec PyProof.Rows L2
/-- a cell that stands in a library, with its counts and its depth -/
structure LRow where
  r : Rw
  sc : Int
  lc : Int
  dp : Int
def cnt (f : LRow → Int) (R : List LRow) (n : Str) : Int := ((R.find? fun x => decide (x.r.n = n)).map f).getD 0
end DL
namespace DL
open PySem PySem.Spec PyProof.Rows L2
section
variable {X : Cx} {ρ : En} {pos : Pos}
open PySem.AutoSeq1 (wpAny_loadPart')
def catS (zs : List Str) : Str := zs.foldl (· ++ ·) Str.empty
def sumL (zs : List Str) : Nat := (zs.map (·.length)).sum
/-- the parts of an f-string -/
def FSd (X : Cx) (ρ : En) (es : List Expr) (zs : List Str) : Prop := ∀ B0 B σ H0 H (acc : Str) (Q : Str → Hp → Prop), J X.K B0 B σ H0 H ρ → acc.length + sumL zs ≤ sizeLine → (∀ H0' H', JH H0 H H0' H' → Q (zs.foldl (· ++ ·) acc) H') → tJs (es.map (RE X)) acc σ H Q
theorem pj_star : ∀ es : List Expr, PJ X es (es.map (RE X))
  | [] => .nil
  | _ :: es => .cons pe_star (pj_star es)
theorem app_len (a b : Str) : (a ++ b).length = a.length + b.length := Array.size_append
variable {e o : Expr} {es : List Expr} {zs : List Str} {z : Str}
theorem fs_nil : FSd X ρ [] [] := fun B0 B σ H0 H acc Q j hl k => k H0 H (JH.refl j.same)
theorem fm_s {p : Pos} (h : ED X ρ e (.str z)) (hl : z.length ≤ sizeLine) : ED X ρ (.FormattedValue e (-1) none p) (.str z) := fun B0 B σ H0 H Q j k => RE.of (pe_fmt pe_star) (h B0 B σ H0 H _ j fun v G0 G g r => by
  cases (show v = .str z from r)
  exact .inl ⟨z, rfl, hl, k _ G0 G g rfl⟩)
theorem fm_i {p : Pos} {i : Int} (h : ED X ρ e (.int i)) (hl : i.natAbs.log2 < 1920) : ED X ρ (.FormattedValue e (-1) none p) (.str (Str.ofString (toString i))) := fun B0 B σ H0 H Q j k => RE.of (pe_fmt pe_star) (h B0 B σ H0 H _ j fun v G0 G g r => by
  cases (show v = .int i from r)
  exact .inr ⟨i, rfl, hl, k _ G0 G g rfl⟩)
theorem sumL_cons (z : Str) (zs : List Str) : sumL (z :: zs) = z.length + sumL zs := by simp [sumL]
theorem fs_cons (h : ED X ρ e (.str z)) (r : FSd X ρ es zs) : FSd X ρ (e :: es) (z :: zs) := fun B0 B σ H0 H acc Q j hl k => by
  rw [sumL_cons] at hl
  refine h B0 B σ H0 H _ j fun v G0 G g rv => ?_
  cases (show v = .str z from rv)
  refine ⟨z, rfl, by rw [app_len]; omega, ?_⟩
  exact r B0 B σ G0 G (acc ++ z) Q (j.grow g) (by rw [app_len]; omega) fun L0 L g2 => k L0 L (g.trans g2)
theorem ed_fs {e2 : Expr} (h : FSd X ρ (e :: e2 :: es) zs) (hl : sumL zs ≤ sizeLine) : ED X ρ (.JoinedStr (e :: e2 :: es) pos) (.str (catS zs)) := fun B0 B σ H0 H Q j k =>
  RE.of (pe_joined (pj_star _)) (h B0 B σ H0 H Str.empty (fun out H1 => Q (.str out) H1) j (by show 0 + _ ≤ _; omega) fun G0 G g => k _ G0 G g rfl)
/-- o.join(e) -/
theorem ed_join {a : Str} {ds : D} {apos : Pos} (ho : ED X ρ o (.str a)) (hs : SeqD ds (zs.map .str)) (he : ED X ρ e ds) (hl : sumL zs + zs.length * a.length ≤ 16777216) (h1 : starEach [e] X.env = [(false, eval e X.env)] := by rfl) (hbase : attributeBase o "join" X.env (eval o X.env) = eval o X.env := by rfl) (hline : (apos.endLine == pos.line) = true := by rfl) :
    ED X ρ (.Call (.Attribute o "join" apos) [e] [] pos) (.str (Str.join a zs)) := fun B0 B σ H0 H Q j k => by
  refine RE.of (pe_join pe_star pe_star h1 hbase hline) (ho B0 B σ H0 H _ j fun v G0 G g r => ?_)
  cases (show v = .str a from r)
  refine ⟨⟨a, rfl⟩, he B0 B σ G0 G _ (j.grow g) fun y L0 L g2 r2 => ?_⟩
  have fin : Q (.str (Txt.join a zs)) L := by
    rw [TL.join_eq]
    exact k _ L0 L (g.trans g2) rfl
  cases hs with
  | lst =>
    obtain ⟨p, vs, rfl, h2, h3⟩ := r2
    rw [DRs.strs h3] at h2
    exact ⟨a, p, zs, rfl, rfl, .inl (g2.sh.seq h2), hl, fin⟩
  | tup =>
    obtain ⟨p, vs, rfl, h2, h3⟩ := r2
    rw [DRs.strs h3] at h2
    exact ⟨a, p, zs, rfl, rfl, .inr (Same.seqT g2.sh h2), hl, fin⟩
end
end DL
namespace DL
open PySem PySem.Spec PyProof.Rows L2
abbrev stI (i : Int) : Str := Str.ofString (toString i)
theorem str_ext {a b : Str} (h : a.cps.toList = b.cps.toList) : a = b := by
  obtain ⟨⟨x⟩⟩ := a; obtain ⟨⟨y⟩⟩ := b
  simp at h; rw [h]
theorem app_assoc (a b c : Str) : a ++ b ++ c = a ++ (b ++ c) := str_ext (by simp only [cps_app, List.append_assoc])
theorem emp_app (a : Str) : Str.empty ++ a = a := str_ext (by rw [cps_app]; rfl)
theorem ofString_app (a b : String) : Str.ofString (a ++ b) = Str.ofString a ++ Str.ofString b := by
  refine str_ext ?_
  rw [cps_app]
  simp only [Str.ofString_eq_toList, String.toList_append, List.map_append]
theorem stI_neg {n : Nat} (h : 0 < n) : stI (-(n : Int)) = ("-" : Str) ++ stI (n : Int) := by
  obtain ⟨m, rfl⟩ := Nat.exists_eq_succ_of_ne_zero (by omega : n ≠ 0)
  show Str.ofString (toString (Int.negSucc m)) = _
  have e : toString (Int.negSucc m) = "-" ++ toString ((m + 1 : Nat) : Int) := rfl
  rw [e, ofString_app]
theorem stI_len {i : Int} {k : Nat} (hk : 0 < k) (h : i.natAbs < 10 ^ k) : (stI i).length ≤ k + 1 := by
  have e : ∀ n : Nat, n < 10 ^ k → (stI (n : Int)).length ≤ k := fun n hn => by
    rw [TL.len_tl, TL.tl_num]
    exact TL.numL_len hk hn
  rcases Int.lt_or_le i 0 with hi | hi
  · have : i = -((i.natAbs : Nat) : Int) := by omega
    rw [this, stI_neg (by omega), app_len]
    have := e i.natAbs h
    have h1 : ("-" : Str).length = 1 := by decide +kernel
    omega
  · have : i = ((i.natAbs : Nat) : Int) := by omega
    rw [this]
    have := e i.natAbs h
    omega
structure Sm (i : Int) : Prop where
  b : i.natAbs < 10 ^ 40
theorem Sm.len {i : Int} (h : Sm i) : (stI i).length ≤ 41 := stI_len (by decide) h.b
theorem Sm.log {i : Int} (h : Sm i) : i.natAbs.log2 < 1920 := by
  have h1 := h.b
  by_cases h0 : i.natAbs = 0
  · rw [h0]; decide
  · have := (Nat.log2_lt h0 (k := 200)).mpr (Nat.lt_of_lt_of_le h1 (by decide +kernel))
    omega
theorem sumL_nil : sumL [] = 0 := rfl
theorem join_len (a : Str) : ∀ ws : List Str, (Str.join a ws).length ≤ sumL ws + ws.length * a.length
  | [] => by show 0 ≤ _; omega
  | [x] => by show x.length ≤ _; simp [sumL]
  | x :: y :: r => by
    show (x ++ a ++ Str.join a (y :: r)).length ≤ _
    have ih := join_len a (y :: r)
    rw [app_len, app_len, sumL_cons, List.length_cons, Nat.succ_mul]
    omega
theorem cat_2 (a b : Str) : catS [a, b] = a ++ b := by
  unfold catS; simp only [List.foldl_cons, List.foldl_nil, emp_app]
theorem lens : ("shape" : Str).length = 5 ∧ ("label" : Str).length = 5 ∧ ("place" : Str).length = 5 ∧ (" " : Str).length = 1 ∧ ("cell " : Str).length = 5 ∧ ("\n" : Str).length = 1 := by decide +kernel
theorem sumL_le {k : Nat} : ∀ {zs : List Str}, (∀ z ∈ zs, z.length ≤ k) → sumL zs ≤ k * zs.length
  | [], _ => by simp [sumL]
  | z :: zs, h => by
    have h1 := h z List.mem_cons_self
    have h2 := sumL_le (zs := zs) fun x hx => h x (List.mem_cons_of_mem _ hx)
    rw [sumL_cons, List.length_cons, Nat.mul_succ]; omega
theorem sm_small {x : Int} (h : x.natAbs ≤ 10 ^ 31) : Sm x := ⟨by omega⟩
end DL
namespace DL
open PySem PySem.Spec PyProof.Rows L2
theorem strs_dr {K : PySem.W.Frag} {H : Hp} : ∀ ys : List Str, DRs K H (ys.map D.str) (ys.map V.str)
  | [] => rfl
  | y :: ys => ⟨.str y, _, rfl, rfl, strs_dr ys⟩
section
variable {X : Cx} {ρ : En} {o e : Expr} {pos apos : Pos}
/-- o.split(e) -/
theorem eo_split {a b : Str} (ho : ED X ρ o (.str a)) (he : ED X ρ e (.str b)) (hb : (b.length == 0) = false) (hl : a.length + 2 ≤ sizeLine) (hs : starEach [e] X.env = [(false, eval e X.env)] := by rfl) (hbase : attributeBase o "split" X.env (eval o X.env) = eval o X.env := by rfl) (hline : (apos.endLine == pos.line) = true := by rfl) :
    EO X ρ (.Call (.Attribute o "split" apos) [e] [] pos) (.lst ((Txt.split a b).map .str)) := fun B0 B σ H0 H Q j k =>
  RE.of (pe_split pe_star pe_star hs hbase hline) (ho B0 B σ H0 H _ j fun v G0 G g r => by
    cases (show v = .str a from r)
    exact ⟨⟨a, rfl⟩, he B0 B σ G0 G _ (j.grow g) fun y L0 L g2 r2 => by
      cases (show y = .str b from r2)
      refine ⟨a, b, rfl, rfl, hb, hl, fun p hp => ?_⟩
      have g3 : JH L0 L L0 (upd L p (.lst ((Txt.split a b).map V.str))) := JH.own g2.sh hp
      have gg := (g.trans g2).trans g3
      exact k p _ _ _ gg upd_same (g2.sh.free hp) ((g.trans g2).sB.free hp) ⟨_, rfl, strs_dr _⟩⟩)
/-- o.startswith(e) -/
theorem ed_starts {a b : Str} (ho : ED X ρ o (.str a)) (he : ED X ρ e (.str b)) (hs : starEach [e] X.env = [(false, eval e X.env)] := by rfl) (hbase : attributeBase o "startswith" X.env (eval o X.env) = eval o X.env := by rfl) (hline : (apos.endLine == pos.line) = true := by rfl) :
    ED X ρ (.Call (.Attribute o "startswith" apos) [e] [] pos) (.bl (Txt.startswith a b)) := fun B0 B σ H0 H Q j k =>
  RE.of (pe_m1 PySem.F.slot_str_startswith PySem.F.type_str_startswith mt_startswith pe_star pe_star hs hbase hline) (ho B0 B σ H0 H _ j fun v G0 G g r => by
    cases (show v = .str a from r)
    exact ⟨⟨a, rfl⟩, he B0 B σ G0 G _ (j.grow g) fun y L0 L g2 r2 => by
      cases (show y = .str b from r2)
      exact ⟨a, b, rfl, rfl, k _ L0 L (g.trans g2) rfl⟩⟩)
/-- o.isdigit() -/
theorem ed_isdigit {a : Str} (ho : ED X ρ o (.str a)) (hbase : attributeBase o "isdigit" X.env (eval o X.env) = eval o X.env := by rfl) (hline : (apos.endLine == pos.line) = true := by rfl) :
    ED X ρ (.Call (.Attribute o "isdigit" apos) [] [] pos) (.bl (Txt.isdigit a)) := fun B0 B σ H0 H Q j k =>
  RE.of (pe_m0 PySem.F.slot_str_isdigit PySem.F.type_str_isdigit mt_isdigit pe_star hbase hline) (ho B0 B σ H0 H _ j fun v G0 G g r => by
    cases (show v = .str a from r)
    exact ⟨⟨a, rfl⟩, a, rfl, rfl, trivial, k _ G0 G g rfl⟩)
/-- int(text) -/
theorem bc_intS {a : Str} {n : Int} (h : PySem.intText? a = some n) (hl : a.length ≤ 640) : BC X (.type "int") [.str a] (.int n) := ⟨_, call_int_str, fun H0 H vs Q s r k => by
  obtain ⟨x, rfl, h1⟩ := r.one'
  cases (show x = .str a from h1)
  exact ⟨a, n, rfl, h, hl, k _ H0 H (JH.refl s) rfl⟩⟩
/-- (.., *e) -/
theorem ad_star {es : List Expr} {ds zs : List D} {p : Pos} (h : ED X ρ e (.tup zs)) (r : AD X ρ es ds) (hs : starEach (.Starred e p :: es) X.env = (true, eval e X.env) :: starEach es X.env := by rfl) : AD X ρ (.Starred e p :: es) (zs ++ ds) := fun B0 B σ H0 H Q j k =>
  RA.of (StX.pa_star pe_star DL.pa_star hs) (h B0 B σ H0 H _ j fun v G0 G g1 r1 => by
    obtain ⟨a, vs, rfl, h1, h2⟩ := r1
    exact ⟨a, vs, rfl, .inl (Same.seqT g1.sh h1), r B0 B σ G0 G _ (j.grow g1) fun ws L0 L g2 r2 => k (vs ++ ws) L0 L (g1.trans g2) (DRs.app (DRs.mono g2.s0 _ _ h2) r2)⟩)
theorem J.lendL {K : PySem.W.Frag} {B0 B H0 H : Hp} {σ : L2.St} {ρ : En} (j : J K B0 B σ H0 H ρ) {i : Nat} {da : List D} (h : ρ[i]? = some (.ow (.lst da))) :
    ∃ a va, H0 a = none ∧ J K B0 B σ (upd H0 a (.lst va)) H (ρ.set i (.sh (.lst da))) := by
  obtain ⟨ov, e1, a, o, e2, h1, h2, h3, va, rfl, h4⟩ := j.get h
  subst e2
  exact ⟨a, va, h2, (j.shareAt (s' := .sh (.lst da)) (c := .lst da) h e1 rfl h1 ⟨va, rfl, h4⟩ (fun b w => w.elim) fun r => ⟨_, rfl, r⟩).1⟩
/-- an own list is looked at by what gives no list -/
theorem ed_lendN {d : D} (i : Nat) {da : List D} (hi : ρ[i]? = some (.ow (.lst da))) (hz : noL d = true) (h : ED X (ρ.set i (.sh (.lst da))) e d) : ED X ρ e d := fun B0 B σ H0 H Q j kk => by
  obtain ⟨a, va, a0, j'⟩ := j.lendL hi
  refine h B0 B σ _ H Q j' fun v L0 L g r => ?_
  have la : L0 a = some (.lst va) := g.s0 _ _ upd_same
  refine kk v (er L0 a) L ⟨fun x u q => ?_, er_sub.trans g.sh, g.sB, fun x u q nt q' => ?_⟩ (er_dr la d v hz r)
  · have n1 : x ≠ a := fun z => by subst z; rw [a0] at q; cases q
    rw [er_ne n1]
    exact g.s0 _ _ (by rw [upd_ne n1]; exact q)
  · by_cases xa : x = a
    · subst xa; exact er_same
    · rw [er_ne xa]
      exact g.fr x u q nt (by rw [upd_ne xa]; exact q')
end
/-- a, b = x, y -/
theorem ws_par {X : Cx} {ρ : En} {pos : Pos} {Φ : Out → Prop} (i j : Nat) {x y : Str} {a b : Expr} {d1 d2 : D} {px py pt pt2 : Pos} {kt k2} (hc : X.calm = true) (hN : X.N.Nodup) (ha : AD X ρ [a, b] [d1, d2]) (hΦ : Φ (.nx ((ρ.set i (.sh d1)).set j (.sh d2)))) (hij : i ≠ j := by decide) (hi : X.N[i]? = some x := by rfl) (hj : X.N[j]? = some y := by rfl)
    (hx : X.env.scope.names.lookup x = some .local := by rfl) (hy : X.env.scope.names.lookup y = some .local := by rfl)
    (hw : swappedStores [.Tuple [.Name x px, .Name y py] kt pt] (.Tuple [a, b] k2 pt2) X.env = pure (some [x, y]) := by rfl)
    (hs : swapsWithSole [.Tuple [.Name x px, .Name y py] kt pt] (.Tuple [a, b] k2 pt2) pos.line X.env = pure false := by rfl) : WS X (.Assign [.Tuple [.Name x px, .Name y py] kt pt] (.Tuple [a, b] k2 pt2) pos) ρ Φ := fun B0 B σ H0 H Dn J k =>
  ⟨_, ps_par hc hN hi hj hij hx hy DL.pa_star hw hs, ha B0 B σ H0 H _ J fun vs G0 G g r => by
    obtain ⟨v, w, rfl, r1, r2⟩ := r.two
    exact ⟨v, w, rfl, k _ hΦ _ G0 G (((J.grow g).setSh r1).setSh r2)⟩⟩
theorem callWith_type_kwB {M : Model} {A : Around} {E : Value → Shared → Prop} {s : Shared} {pos : Pos} {id : String} {first : List Value} {args : List (Bool × Sem Value)} {keywords : List (Option Str × Sem Value)} {Q : Value → Shared → Prop}
    (hplain : args.any (·.1) = false) (hkw : keywords.any (·.1.isNone) = false)
    (h : wpAny M A (evalArgs (.type id) true args keywords) (fun a s₁ => wpAny M A (call (.type id) (first ++ a.pos) a.kw) Q E s₁) E s) :
    wpAny M A (callWith pos (.type id) first args keywords) Q E s := by
  unfold callWith
  refine wpAny_bind (wpAny_holding (wpAny_mono h (fun a s₁ h₁ => wpAny_bind (wpAny_standAt ?_)) fun _ _ x => x))
  simp only [hplain, hkw, Bool.or_false]
  refine wpAny_bind (wpAny_pure ?_)
  exact wpAny_bind (wpAny_mono h₁ (fun r s₂ hr => wpAny_bind (wpAny_holding (wpAny_point (wpAny_pure hr)))) fun _ _ x => x)
/-- as Ite, counted from k -/
def IteS (K : PySem.W.Frag) (k : Nat) (a : Addr) : It :=
  ⟨fun i H => ∃ (xs : List V) (x : V), SqL K H a xs ∧ xs[i]? = some x, fun i H v H' => ∃ T x, v = .ref T ∧ H T = none ∧ H' = upd H T (.tup [.int ((k : Int) + (i : Int)), x]) ∧ ∀ xs, SqL K H a xs → xs[i]? = some x, fun i H => ∃ xs : List V, SqL K H a xs ∧ xs.length ≤ i⟩
theorem turn_enumS {P : Program} {w : World} {K : PySem.W.Frag} {elts : List Expr} {kk : Nat} {tpos : Pos} (k : Nat) (a e it : Addr) :
    Turn P w K (.Tuple elts kk tpos) (IteS K k a) [e, it] e (fun i h => (∃ old, IsEnum h e it ((k : Int) + (i : Int)) old) ∧ h.IsListIter it a i ∧ e ≠ it ∧ a ≠ it) where
  mem := by simp
  obj := fun i h st b hb => by
    obtain ⟨⟨old, he⟩, ⟨o, ho, hc, hd⟩, _⟩ := st
    have e' : b = e ∨ b = it := by simpa using hb
    rcases e' with z | z
    · rw [z]; exact ⟨_, he, fun v q => nomatch q⟩
    · rw [z]; exact ⟨o, ho, fun v q => by rw [hd] at q; cases q⟩
  keep := fun i h h' st k => let ⟨⟨old, he⟩, hi, hne⟩ := st; ⟨⟨old, k e (by simp) _ he⟩, hi.at fun o q => k it (by simp) o q, hne⟩
  item := by
    intro X hP hw hK hc i pins s σ H E I hf st hg
    subst hP hw hK
    obtain ⟨⟨old, he⟩, hit, hne, hna⟩ := st
    obtain ⟨xs, x, hq, hx⟩ := hg
    obtain ⟨its, rv, p, hz⟩ := I.list hq
    obtain ⟨u, hu, ru⟩ := rv.get hx
    have p' : s.heap.IsList a its.toArray := p.isList
    have hel : e < s.heap.objs.size := Heap.lt_size he
    have hil : it < s.heap.objs.size := by obtain ⟨_, q, _⟩ := hit; exact Heap.lt_size q
    have hea : e ≠ a := fun z => by
      subst z
      obtain ⟨o, q1, q2, _⟩ := p'
      rw [show s.heap.get? e = some _ from he] at q1
      cases q1
      exact absurd (Value.type.inj q2) (by decide)
    have hlt : i < its.toArray.size := by
      have := (List.getElem?_eq_some_iff.mp hu).1
      simpa using this
    refine wpAny_pyNext_enum_itemC (Draws.list (A := X.A.in1) (I.ok.hd hc) it a hna its.toArray) he ⟨hit, p'⟩ hlt hne (by simp [hne, hea]) fun y h' tk hy ho st' hT hsz hk => ?_
    have hyu : y = u := by
      have : its[i]? = some y := by simpa using hy
      rw [hu] at this
      exact (Option.some.inj this).symm
    subst hyu
    refine ⟨_, rfl, wpAny_letOwnedTupleGo_enum (s := { s with heap := h', toks := tk + 1 }) ho fun h'' he' sb => ?_⟩
    have hT2 : h''.get? s.heap.objs.size = some { cls := .type "tuple", data := .seq #[.int ((k : Int) + (i : Int)) tk, y] } := (sb.2 _ (Nat.ne_of_gt hel)).trans hT
    have new : ObjOk X.prog X.w (upd H s.heap.objs.size (.tup [.int ((k : Int) + (i : Int)), x])) h'' s.heap.objs.size (.tup [.int ((k : Int) + (i : Int)), x]) :=
      ⟨by show 2 ≤ sizeLine; decide, [.int ((k : Int) + (i : Int)) tk, y], .cons ⟨_, rfl⟩ (.cons ru .nil), ⟨_, hT2, rfl, _, rfl⟩⟩
    have I1 : Inv X pins σ (upd H s.heap.objs.size (.tup [.int ((k : Int) + (i : Int)), x])) { s with heap := h'', toks := tk + 1 } :=
      I.turnedNew (ch := [e, it]) (fun b ob hb q => (sb.2 b (fun z => hb (by simp [z]))).trans (hk b ob (fun z => hb (by simp [z])) (fun z => hb (by simp [z])) q)) hf (Nat.le_refl _) new
    refine ⟨.ref s.heap.objs.size, _, I1, rfl, ⟨_, x, rfl, I.hok.fresh (Nat.le_refl _), rfl, fun ys hy => by rw [I.list_inj hy hq]; exact hx⟩, ⟨⟨y, ?_⟩, st'.1.at fun o q => (sb.2 it (Ne.symm hne)).trans q, hne, hna⟩, fun b hb => ?_⟩
    · have e1 : (k : Int) + ((i + 1 : Nat) : Int) = (k : Int) + (i : Int) + 1 := by omega
      rw [e1]; exact he'
    · have hb' : b < s.heap.objs.size := by
        have e' : b = e ∨ b = it := by simpa using hb
        rcases e' with z | z
        · rw [z]; exact hel
        · rw [z]; exact hil
      rw [upd_ne (Nat.ne_of_lt hb')]
      exact (hf b hb).1
  done := by
    intro X hP hw hK hc i pins s σ H E I hf st hg
    subst hP hw hK
    obtain ⟨⟨old, he⟩, hit, hne, hna⟩ := st
    obtain ⟨xs, hq, hx⟩ := hg
    obtain ⟨its, rv, p, hz⟩ := I.list hq
    have p' : s.heap.IsList a its.toArray := p.isList
    obtain ⟨f0, f1, f2, f3, f4, f5⟩ := hf it (by simp)
    have hl := rv.length
    have hT : s.TypeIs (.ref e) "enumerate" := ⟨_, he, rfl⟩
    refine (?_ : wpAny _ _ _ _ _ s)
    unfold pyNext
    refine wpAny_bind (wpAny_attempt (wpAny_callSpecial?_slot (name := Str.ofString "__next__") hT F.slot_enumerate_next
      (wpAny_call_entry F.slot_enumerate_next hT F.entry_enumerate_next ?_ (F.args_enumerate_next_1 _))))
    show wpAny _ _ (field (.ref e) 2 >>= _) _ _ _
    refine wpAny_bind (wpAny_field he rfl (x := .ref it) rfl ?_)
    refine wpAny_bind (wpAny_nextOf_list_end (A := X.A.in1) (I.ok.hd hc) hit p' (by simp; omega) fun h' x he' hx' => ?_)
    obtain ⟨o, ho, hc⟩ := hx'
    refine wpAny_bind (wpAny_isInstance (T := "StopIteration") (b := true) ⟨o, ho, hc⟩ isSubtype_stop ?_)
    exact wpAny_pure ⟨rfl, I.turned (t' := s.toks) (fun b o hb q => he' b o hb q) f0 f1 f3 f4 f5⟩
  self := fun A i s Q E st h => let ⟨⟨_, he⟩, _⟩ := st; wpAny_pyIter_enum he h
/-- enumerate(e, start=k) -/
def iEnumS (K : PySem.W.Frag) (k : Nat) (ta : TA) : TI := fun σ H R => ta σ H fun vs H1 => ∃ a xs, vs = [.ref a] ∧ SqL K H1 a xs ∧ R (IteS K k a) H1
theorem pi_enumS {X : Cx} {e : Expr} {ta : TA} {k : Nat} {kc : Nat} {p x0 x1 pos tpos : Pos} {elts : List Expr} {kk : Nat} (hg : Gl X "enumerate") (hm : X.mg "enumerate" = none) (ha : PA X [e] ta) (hk : k < 1000)
    (h1' : backTo pos (starEach [e] X.env) = (false, eval e X.env) :: backTo pos (starEach [] X.env) := by rfl) (h2 : (backTo pos (starEach [e] X.env)).any (·.1) = false := by rfl)
    (h3 : (backToKw pos (keywordEach [⟨some "start", .Constant (.int (k : Int)) kc x0, x1⟩] X.env)).all (·.1.isSome) = true := by rfl) (h4 : (backToKw pos (keywordEach [⟨some "start", .Constant (.int (k : Int)) kc x0, x1⟩] X.env)).any (·.1.isNone) = false := by rfl) (h5 : (backToKw pos (keywordEach [⟨some "start", .Constant (.int (k : Int)) kc x0, x1⟩] X.env)).filterMap (·.1) = [("start" : Str)] := by rfl) :
    PI X (.Tuple elts kk tpos) (.Call (.Name "enumerate" p) [e] [⟨some "start", .Constant (.int (k : Int)) kc x0, x1⟩] pos) (iEnumS X.K k ta) := by
  refine ⟨fun pins s σ H R I h => ?_⟩
  refine wpAny_Call_Name_kw (ld_blt I hg hm boot_enumerate ?_)
  refine callWith_type_kwB h2 h4 ?_
  rw [h1']
  refine evalArgs_kwB h3 ?_
  have hh := ha.run pos pins s σ H _ I h
  rw [h1'] at hh
  refine thn hh fun us s1 ⟨vs, H1, I1, r1, q1⟩ => ?_
  refine thn ((pk_cons (nm := some "start") (pe_int (i := (k : Int)) (j := kc)) pk_nil).run pos pins s1 σ H1 (fun ws H2 => ws = [.int (k : Int)] ∧ H2 = H1) I1 ⟨rfl, rfl⟩) fun ws s2 ⟨zs, H2, I2, r2, q2⟩ => ?_
  obtain ⟨rfl, rfl⟩ := q2
  rw [h5]
  obtain ⟨a, xs, ex, hq, q⟩ := q1
  subst ex
  cases r1 with
  | cons r rr =>
    cases rr
    cases r
    cases r2 with
    | cons t tt =>
      cases tt
      obtain ⟨tz, rfl⟩ := t
      obtain ⟨its, rv, p', hz⟩ := I2.list hq
      have p2 : s2.heap.IsList a its.toArray := p'.isList
      have hlt : a < s2.heap.objs.size := by obtain ⟨_, q, _⟩ := p2; exact Heap.lt_size q
      refine enum_begins_start (begins_list a its.toArray) p2 (by omega) (by omega) fun h' he hit hsz hk => wpAny_pyIter_enum he ?_
      have I3 : Inv X pins σ H2 { s2 with heap := h' } := I2.kept (t' := s2.toks) hk
      refine ⟨s2.heap.objs.size + 1, [s2.heap.objs.size + 1, s2.heap.objs.size], _, _, H2, rfl, I3, turn_enumS k a (s2.heap.objs.size + 1) s2.heap.objs.size, ⟨⟨.none, by simpa using he⟩, ⟨_, hit, rfl, rfl⟩, Nat.succ_ne_self _, Nat.ne_of_lt hlt⟩, fun b hb => ?_, q⟩
      have e' : b = s2.heap.objs.size + 1 ∨ b = s2.heap.objs.size := by simpa using hb
      have hle : s2.heap.objs.size ≤ b := by
        rcases e' with z | z
        · rw [z]; exact Nat.le_add_right _ _
        · rw [z]; exact Nat.le_refl _
      exact I2.fpOk hle (I2.hok.fresh hle)
theorem walk_enumS {K : PySem.W.Frag} {k : Nat} {a : Addr} {xs : List V} : Walk (IteS K k a) xs.length (fun H => SqL K H a xs) (YPair (fun i => some (.int ((k : Int) + (i : Int)))) (fun i => xs[i]?)) := by
  refine ⟨fun i _ hi q => ⟨xs, xs[i], q, by simp [hi]⟩, fun _ q => ⟨xs, q, Nat.le_refl _⟩, fun i H v H' _ q y => ?_⟩
  obtain ⟨T, x, h1, h2, h3, h4⟩ := y
  exact ⟨T, .int ((k : Int) + (i : Int)), x, h1, h2, h3, rfl, h4 xs q⟩
/-- numbered from k -/
def enumK (k : Nat) (ds : List D) : List D := (List.range ds.length).zipWith (fun (i : Nat) d => D.tup [.int ((k : Int) + (i : Int)), d]) ds
theorem enumK_len (k : Nat) (ds : List D) : (enumK k ds).length = ds.length := by simp [enumK]
theorem enumK_get {k : Nat} {ds : List D} {i : Nat} {d : D} (h : (enumK k ds)[i]? = some d) : ∃ d', ds[i]? = some d' ∧ d = .tup [.int ((k : Int) + (i : Int)), d'] := by
  have hi : i < ds.length := by have := (List.getElem?_eq_some_iff.mp h).1; rwa [enumK_len] at this
  refine ⟨ds[i], by simp [hi], ?_⟩
  unfold enumK at h
  rw [List.getElem?_zipWith, List.getElem?_range hi, List.getElem?_eq_getElem hi] at h
  exact (Option.some.inj h).symm
theorem id_enumS {X : Cx} {ρ : En} {a : Expr} {k kc : Nat} {pos x0 x1 : Pos} {ds : List D} {elts : List Expr} {kk : Nat} {tpos p : Pos} (hg : Gl X "enumerate") (hm : X.mg "enumerate" = none) (ha : ED X ρ a (.lst ds)) (hk : k < 1000 := by decide) (hs2 : starEach [a] X.env = (false, eval a X.env) :: starEach [] X.env := by rfl)
    (h1' : backTo pos (starEach [a] X.env) = (false, eval a X.env) :: backTo pos (starEach [] X.env) := by rfl) (h2 : (backTo pos (starEach [a] X.env)).any (·.1) = false := by rfl)
    (h3 : (backToKw pos (keywordEach [⟨some "start", .Constant (.int (k : Int)) kc x0, x1⟩] X.env)).all (·.1.isSome) = true := by rfl) (h4 : (backToKw pos (keywordEach [⟨some "start", .Constant (.int (k : Int)) kc x0, x1⟩] X.env)).any (·.1.isNone) = false := by rfl) (h5 : (backToKw pos (keywordEach [⟨some "start", .Constant (.int (k : Int)) kc x0, x1⟩] X.env)).filterMap (·.1) = [("start" : Str)] := by rfl) :
    ID X ρ (.Tuple elts kk tpos) (.Call (.Name "enumerate" p) [a] [⟨some "start", .Constant (.int (k : Int)) kc x0, x1⟩] pos) (enumK k ds) := fun B0 B σ H0 H R j kq =>
  ⟨_, pi_enumS hg hm DL.pa_star hk h1' h2 h3 h4 h5, ad_cons (X := X) ha ad_nil hs2 B0 B σ H0 H _ j fun vs G0 G g r => by
    obtain ⟨x, rfl, q, ys, rfl, h1, h2⟩ := r.one'
    refine ⟨q, ys, rfl, g.sh.seq h1, kq _ G0 G g (dw_pair (f := fun _ => none) (g := fun _ => none) walk_enumS (by rw [enumK_len, DRs.length h2]) (fun H1 H s1 s2 => (s1.trans s2).seq h1) fun i d hd => ?_)⟩
    obtain ⟨d', e1, rfl⟩ := enumK_get hd
    obtain ⟨v, e2, e3⟩ := DRs.get h2 e1
    refine ⟨_, _, rfl, fun v hv => ?_, fun v' hv => ?_⟩
    · cases hv; rfl
    · rw [e2] at hv; cases hv; exact e3⟩
theorem cutDrop (l : List D) {k : Int} (h : 0 ≤ k) : cutD l (some k) none = l.drop k.toNat := by
  unfold cutD
  show (l.drop (HT.sIx l.length 0 (some k))).take (l.length - HT.sIx l.length 0 (some k)) = _
  have e : HT.sIx l.length 0 (some k) = min k.toNat l.length := by
    unfold HT.sIx; simp only; split <;> omega
  rw [e, List.take_of_length_le (by rw [List.length_drop]; exact Nat.le_refl _)]
  by_cases hk : k.toNat ≤ l.length
  · rw [Nat.min_eq_left hk]
  · rw [Nat.min_eq_right (by omega), List.drop_eq_nil_of_le (Nat.le_refl _), List.drop_eq_nil_of_le (by omega)]
end DL
namespace DL
open PySem PySem.Spec PyProof.Rows L2
theorem CirOk.perm {n : Int} {N M : List Nm} {V : List Dev} (ok : CirOk n N V) (p : M.Perm N) : CirOk n M V :=
  ⟨ok.nn, fun q hq => ok.nm q (p.mem_iff.mp hq), (p.map _).nodup_iff.mpr ok.d1, (p.map _).nodup_iff.mpr ok.d2, by rw [p.length_eq]; exact ok.nl, ok.vl, ok.dv⟩
end DL
namespace DL
open PySem PySem.Spec PyProof.Rows L2
/-- alike but for a dict at a, that is locked in one -/
structure Fz (a : Addr) (t : List (List Key × V)) (H H' : Hp) : Prop where
  at1 : Rd H a (.dT t)
  at2 : Rd H' a (.dT t)
  ne : ∀ b, b ≠ a → H' b = H b
theorem Rd.uniq {H : Hp} {a : Addr} {u w : HO} (h : Rd H a u) (k : Rd H a w) (hu : ∀ o x, u ≠ .frz o x) (hw : ∀ o x, w ≠ .frz o x) : u = w := by
  rcases h with h | ⟨o, h⟩ <;> rcases k with k | ⟨o', k⟩
  · exact Option.some.inj (h.symm.trans k)
  · exact absurd (Option.some.inj (h.symm.trans k)) (hu _ _)
  · exact absurd (Option.some.inj (k.symm.trans h)) (hw _ _)
  · have := Option.some.inj (h.symm.trans k); injection this
theorem Fz.rd {a : Addr} {t : List (List Key × V)} {H H' : Hp} (f : Fz a t H H') {b : Addr} {u : HO} (hu : ∀ o x, u ≠ .frz o x) (h : Rd H b u) : Rd H' b u := by
  by_cases e : b = a
  · subst e
    rw [Rd.uniq h f.at1 hu (fun _ _ z => by cases z)]
    exact f.at2
  · rcases h with h | ⟨o, h⟩
    · exact .inl (by rw [f.ne b e]; exact h)
    · exact .inr ⟨o, by rw [f.ne b e]; exact h⟩
theorem c2_notInSq {X : Cx} {p1 p2 : Int} {ks : List Sq} (hu : X.A.units + 64 < cLine) : C2 X .NotIn (.tup [.int p1, .int p2]) (dicD ks).d (.bl (!decide ((p1, p2) ∈ ks))) := ⟨_, op_notInSq (by omega), fun H0 H x y Q s r1 r2 kk => by
  obtain ⟨b, vs, rfl, f1, r⟩ := r1
  obtain ⟨u, w, rfl, e2, e3⟩ := r.two
  cases (show u = .int p1 from e2); cases (show w = .int p2 from e3)
  obtain ⟨a, rfl, h1⟩ := dr_dic r2
  exact ⟨a, b, _, kq (p1, p2), rfl, rfl, Same.rd s h1, Same.seqT s f1, by rw [tT_val]; exact kk _ H0 H (JH.refl s) rfl⟩⟩
end DL
namespace DL
open PySem PySem.Spec PyProof.Rows L2
noncomputable def cirEq (n : Int) (N : List Nm) (V : List Dev) (m : Int) (M : List Nm) (W : List Dev) : Bool := decide (n = m) && (decide (srtN N = srtN M) && decide (V = W))
theorem str_small {x : Str} (h : x.cps.toList.all chB = true) : smallStr x := by
  show PyData.strOk x = true
  unfold PyData.strOk
  rw [Array.all_eq_true]
  intro i hi
  have := List.all_eq_true.mp h x.cps[i] (Array.mem_def.mp (Array.getElem_mem hi))
  unfold chB loB at this
  simp only [Bool.or_eq_true, Bool.and_eq_true, decide_eq_true_eq] at this ⊢
  omega
theorem name_small {x : Str} (h : nameB x = true) : smallStr x := by
  unfold nameB at h
  simp only [Bool.and_eq_true] at h
  exact str_small h.2.2
theorem nm_cm {N : List Nm} (h : ∀ q ∈ N, nameB q.2 = true) : Cm 2 (.tup (N.map nmE)) := .tup fun d hd => by
  obtain ⟨q, hq, rfl⟩ := List.mem_map.mp hd
  exact .tup (Cm.all_cons .int (Cm.all_cons (.str (name_small (h q hq))) Cm.all_nil))
theorem dev_cmd {n : Int} {v : Dev} (h : DevOk n v) : Cm 1 v.e := by
  refine .tup (Cm.all_cons (.str ?_) (Cm.all_cons .int (Cm.all_cons .int (Cm.all_cons .int (Cm.all_cons .int (Cm.all_cons .int Cm.all_nil))))))
  rcases h.k with e | e <;> rw [e] <;> exact str_small (by decide +kernel)
theorem dev_cm {n : Int} {V : List Dev} (h : ∀ v ∈ V, DevOk n v) : Cm 2 (.tup (V.map Dev.e)) := .tup fun d hd => by
  obtain ⟨v, hv, rfl⟩ := List.mem_map.mp hd
  exact dev_cmd (h v hv)
theorem nmE_inj {p q : Nm} (h : nmE p = nmE q) : p = q := by
  obtain ⟨a, b⟩ := p
  obtain ⟨c, d⟩ := q
  simp only [nmE, D.tup.injEq, List.cons.injEq, D.int.injEq, D.str.injEq, and_true] at h
  rw [h.1, h.2]
theorem devE_inj {p q : Dev} (h : p.e = q.e) : p = q := by
  obtain ⟨a, b, c, d, e, f⟩ := p
  obtain ⟨a', b', c', d', e', f'⟩ := q
  simp only [Dev.e, D.tup.injEq, List.cons.injEq, D.int.injEq, D.str.injEq, and_true] at h
  obtain ⟨h1, h2, h3, h4, h5, h6⟩ := h
  rw [h1, h2, h3, h4, h5, h6]
theorem map_inj_of {α : Type} {f : α → D} (hf : ∀ a b, f a = f b → a = b) {l m : List α} : l.map f = m.map f ↔ l = m :=
  List.map_inj_right (f := f) hf
theorem c2_eqNm {X : Cx} {N M : List Nm} {k : Bool} (hu : X.A.units + 64 < cLine) (h : ∀ q ∈ N, nameB q.2 = true) (h' : ∀ q ∈ M, nameB q.2 = true) (hk : k = true ↔ N = M) : C2 X .Eq (.tup (N.map nmE)) (.tup (M.map nmE)) (.bl k) :=
  c2_eqC hu (nm_cm h) (nm_cm h') (by rw [D.tup.injEq, map_inj_of (fun a b => nmE_inj)]; exact hk)
theorem c2_eqDev {X : Cx} {n m : Int} {V W : List Dev} {k : Bool} (hu : X.A.units + 64 < cLine) (h : ∀ v ∈ V, DevOk n v) (h' : ∀ v ∈ W, DevOk m v) (hk : k = true ↔ V = W) : C2 X .Eq (.tup (V.map Dev.e)) (.tup (W.map Dev.e)) (.bl k) :=
  c2_eqC hu (dev_cm h) (dev_cm h') (by rw [D.tup.injEq, map_inj_of (fun a b => devE_inj)]; exact hk)
theorem srt_names {n : Int} {N : List Nm} {V : List Dev} (ok : CirOk n N V) : ∀ q ∈ srtN N, nameB q.2 = true := fun q hq => (ok.nm q ((srtN_perm N).mem_iff.mp hq)).2
theorem DevOk.up {n m : Int} {v : Dev} (h : DevOk n v) (hm : n ≤ m) : DevOk m v := ⟨h.k, ⟨h.g.1, by have := h.g.2; omega⟩, ⟨h.e.1, h.e.2.1, by have := h.e.2.2; omega⟩, h.w, h.l⟩
theorem CirOk.up {n : Int} {N : List Nm} {V : List Dev} (ok : CirOk n N V) (h : n ≤ 100) : CirOk (n + 1) N V :=
  ⟨by have := ok.nn; omega, fun q hq => ⟨by have := (ok.nm q hq).1; omega, (ok.nm q hq).2⟩, ok.d1, ok.d2, ok.nl, ok.vl, fun v hv => (ok.dv v hv).up (by omega)⟩
theorem CirOk.more {n : Int} {N : List Nm} {V : List Dev} {z : Str} (ok : CirOk n N V) (h : n ≤ 100) (hl : N.length ≤ 100) (hz : nameB z = true) (hn : ∀ q ∈ N, q.2 ≠ z) : CirOk (n + 1) (N ++ [(n, z)]) V := by
  have up := ok.up h
  refine ⟨up.nn, fun q hq => ?_, ?_, ?_, by rw [List.length_append]; simp only [List.length_cons, List.length_nil]; omega, ok.vl, up.dv⟩
  · rcases List.mem_append.mp hq with hq | hq
    · exact up.nm q hq
    · rw [List.mem_singleton] at hq; subst hq
      exact ⟨by have := ok.nn; simp only; omega, hz⟩
  · rw [List.map_append, List.nodup_append]
    refine ⟨ok.d1, by simp, fun a ha b hb e => ?_⟩
    obtain ⟨q, hq, rfl⟩ := List.mem_map.mp ha
    simp only [List.map_cons, List.map_nil, List.mem_singleton] at hb
    have := (ok.nm q hq).1
    omega
  · rw [List.map_append, List.nodup_append]
    refine ⟨ok.d2, by simp, fun a ha b hb e => ?_⟩
    obtain ⟨q, hq, rfl⟩ := List.mem_map.mp ha
    simp only [List.map_cons, List.map_nil, List.mem_singleton] at hb
    exact hn q hq (e.trans hb)
theorem CirOk.devs {n : Int} {N : List Nm} {V W : List Dev} (ok : CirOk n N V) (h : W.length ≤ 200) (hd : ∀ v ∈ W, DevOk n v) : CirOk n N W := ⟨ok.nn, ok.nm, ok.d1, ok.d2, ok.nl, h, hd⟩
theorem CirOk.names {n : Int} {N M : List Nm} {V : List Dev} (ok : CirOk n N V) (h : M.Sublist N) : CirOk n M V :=
  ⟨ok.nn, fun q hq => ok.nm q (h.subset hq), (h.map _).nodup ok.d1, (h.map _).nodup ok.d2, Nat.le_trans h.length_le ok.nl, ok.vl, ok.dv⟩
def zz : Str := "zz9z"
theorem zz_ok : nameB zz = true := by decide +kernel
theorem cN_len {c nets most : Int} (h : 0 ≤ nets) : ((cN c nets most).length : Int) ≤ nets := by
  have h1 := qN_len c (5 * most + nets + 2) (qCnt c nets most).toNat
  have h2 := qCnt_lo (c := c) (most := most) h
  show ((qN _ _ _).length : Int) ≤ _
  omega
theorem cV_len {c nets most : Int} (h : 0 ≤ most) : ((cV c nets most).length : Int) ≤ most := by
  have h1 := qm_le c nets most h
  show ((qV _ _ _ _ _).length : Int) ≤ _
  rw [qV_len]; exact h1
def wid (v : Dev) : Dev := ⟨v.k, v.g, v.a, v.b, v.w + 1, v.l⟩
theorem wid_ok {n : Int} {v : Dev} (h : DevOk n v) : DevOk n (wid v) := ⟨h.k, h.g, h.e, by have := h.w; show 1 ≤ v.w + 1; omega, h.l⟩
/-- all the law needs of a drawn circuit -/
structure Drn (n : Int) (N : List Nm) (V : List Dev) : Prop where
  ok : CirOk n N V
  n : n ≤ 14
  nl : N.length ≤ 14
  vl : V.length ≤ 12
  z : ∀ q ∈ N, q.2 ≠ zz
section
variable {n : Int} {N : List Nm} {V V0 : List Dev} {v : Dev}
theorem Drn.a (h : Drn n N V) : CirOk (n + 1) N V := h.ok.up (by have := h.n; omega)
theorem Drn.b (h : Drn n N V) : CirOk (n + 1) (N ++ [(n, zz)]) V := h.ok.more (by have := h.n; omega) (by have := h.nl; omega) zz_ok h.z
theorem Drn.c (h : Drn n N V) (e : V = V0 ++ [v]) : CirOk n N V0 := h.ok.devs (by have := h.vl; rw [e, List.length_append] at this; omega) fun w hw => h.ok.dv w (by rw [e]; simp [hw])
theorem Drn.d (h : Drn n N V) (e : V = V0 ++ [v]) : CirOk n N (V ++ [v]) := h.ok.devs (by have := h.vl; rw [List.length_append]; simp only [List.length_cons, List.length_nil]; omega) fun w hw => by
  rcases List.mem_append.mp hw with hw | hw
  · exact h.ok.dv w hw
  · rw [List.mem_singleton] at hw; subst hw; exact h.ok.dv w (by rw [e]; simp)
theorem Drn.e (h : Drn n N V) (e : V = V0 ++ [v]) : CirOk n N (V0 ++ [wid v]) := h.ok.devs (by have := h.vl; rw [e] at this; rw [List.length_append] at this ⊢; exact Nat.le_trans this (by omega)) fun w hw => by
  rcases List.mem_append.mp hw with hw | hw
  · exact h.ok.dv w (by rw [e]; simp [hw])
  · rw [List.mem_singleton] at hw; subst hw; exact wid_ok (h.ok.dv v (by rw [e]; simp))
theorem Drn.g (h : Drn n N V) : CirOk n (N.drop 1) V := h.ok.names (List.drop_sublist 1 N)
theorem Drn.r (h : Drn n N V) : CirOk n N.reverse V := h.ok.perm N.reverse_perm
end
end DL
namespace DL
open PySem PySem.Spec PyProof.Rows L2
structure RdI (i : Int) : Prop where
  b : 0 ≤ i ∧ i < 10 ^ 30
theorem RdI.sm {i : Int} (h : RdI i) : Sm i := ⟨by have := h.b; omega⟩
theorem RdI.tl {i : Int} (h : RdI i) : (stI i).cps.toList = TL.numL i.toNat := by
  have := h.b
  have e := TL.tl_num i.toNat
  rw [show ((i.toNat : Nat) : Int) = i by omega] at e
  exact e
theorem RdI.len {i : Int} (h : RdI i) : (stI i).length ≤ 30 := by
  have := h.b
  have e : (stI i).length = (stI i).cps.toList.length := by rw [Array.length_toList]; rfl
  rw [e, h.tl]
  exact TL.numL_len (by decide) (by omega)
theorem RdI.dig {i : Int} (h : RdI i) : ∀ c ∈ (stI i).cps.toList, 48 ≤ c ∧ c ≤ 57 := fun c hc => by
  rw [h.tl] at hc
  exact TL.numL_digits _ c hc
theorem RdI.ne {i : Int} (h : RdI i) : (stI i).cps.toList ≠ [] := by rw [h.tl]; exact TL.numL_ne _
theorem dig_uni : ∀ c : Fin 10, Unicode.isDigit (48 + c.val) = true := by decide +kernel
theorem RdI.isdigit {i : Int} (h : RdI i) : Txt.isdigit (stI i) = true := by
  unfold Txt.isdigit
  have h1 : 0 < (stI i).length := by
    have := List.length_pos_iff.mpr h.ne
    rwa [Array.length_toList] at this
  rw [Bool.and_eq_true, ← Array.all_toList]
  refine ⟨decide_eq_true h1, List.all_eq_true.mpr fun c hc => ?_⟩
  obtain ⟨a, b⟩ := h.dig c hc
  have := dig_uni ⟨c - 48, by omega⟩
  rwa [show 48 + (c - 48) = c by omega] at this
theorem RdI.int {i : Int} (h : RdI i) : PySem.intText? (stI i) = some i := by
  have hb := h.b
  have e := TL.int_num (n := i.toNat) (by rw [← h.tl, Array.length_toList]; have := h.len; exact Nat.le_trans this (by decide))
  rwa [show ((i.toNat : Nat) : Int) = i by omega] at e
theorem num_first : ∀ n : Nat, 0 < n → (TL.numL n).getD 0 0 ≠ 48 := fun n => by
  induction n using Nat.strongRecOn with
  | _ n ih =>
    intro hn
    by_cases h : n < 10
    · rw [TL.numL_lt h]; show 48 + n ≠ 48; omega
    · rw [TL.numL_step (by omega)]
      have h1 := ih (n / 10) (by omega) (by omega)
      have h2 := TL.numL_ne (n / 10)
      cases q : TL.numL (n / 10) with
      | nil => exact absurd q h2
      | cons c r => rw [q] at h1; exact h1
theorem sgn_0 {c : Nat} (h : sgn c = ("0" : Str)) : c = 48 := by
  have e := congrArg (fun z : Str => z.cps.toList) h
  have e0 : ("0" : Str).cps.toList = [48] := by decide +kernel
  simp only [e0] at e
  have : [c] = [48] := e
  simpa using this
theorem RdI.head {i : Int} (h : RdI i) : (decide (stI i = ("0" : Str)) || !decide (sgn ((stI i).cps.toList.getD 0 0) = ("0" : Str))) = true := by
  have hb := h.b
  by_cases h0 : i = 0
  · subst h0
    rw [show decide (stI 0 = ("0" : Str)) = true by decide +kernel]; rfl
  · rw [decide_eq_false (p := sgn ((stI i).cps.toList.getD 0 0) = ("0" : Str)) (fun e => by
      have := sgn_0 e
      rw [h.tl] at this
      exact num_first i.toNat (by omega) this)]
    simp
theorem sub_minus (x : Str) (h : x.cps.toList.getD 0 0 ≠ 45) : Txt.startswith x "-" = false := by
  rw [Bool.eq_false_iff]
  intro z
  unfold Txt.startswith at z
  rw [Bool.and_eq_true] at z
  have h1 : x.cps.extract 0 (0 + ("-" : Str).length) = ("-" : Str).cps := by
    have := z.2
    change (x.cps.extract 0 (0 + ("-" : Str).length) == ("-" : Str).cps) = true at this
    exact eq_of_beq this
  have e1 : ("-" : Str).length = 1 := by decide +kernel
  have e2 : ("-" : Str).cps.toList = [45] := by decide +kernel
  have h2 := congrArg Array.toList h1
  rw [e1, e2, Array.toList_extract] at h2
  cases q : x.cps.toList with
  | nil => rw [q] at h2; simp at h2
  | cons c r =>
    rw [q] at h h2
    simp [List.extract_eq_drop_take] at h2
    exact h h2
theorem RdI.starts {i : Int} (h : RdI i) : Txt.startswith (stI i) "-" = false := sub_minus _ (by
  have h1 := h.ne
  have h2 := h.dig
  cases q : (stI i).cps.toList with
  | nil => exact absurd q h1
  | cons c r =>
    have := h2 c (by rw [q]; exact List.mem_cons_self)
    show c ≠ 45; omega)
structure WOk (w : Str) : Prop where
  s : 32 ∉ TL.tl w
  l : 10 ∉ TL.tl w
  n : w.length ≤ 41
theorem RdI.w {i : Int} (h : RdI i) : WOk (stI i) := ⟨fun m => by have := h.dig 32 m; omega, fun m => by have := h.dig 10 m; omega, by have := h.len; omega⟩
theorem name_w {x : Str} (h : nameB x = true) : WOk x := by
  have hl := nameB_len h
  unfold nameB at h
  simp only [Bool.and_eq_true] at h
  have ha := List.all_eq_true.mp h.2.2
  refine ⟨fun m => ?_, fun m => ?_, by omega⟩
  · have := ha 32 m; revert this; decide
  · have := ha 10 m; revert this; decide
theorem lit_w : WOk "nets" ∧ WOk "name" ∧ WOk "device" ∧ WOk "n" ∧ WOk "p" := by
  refine ⟨⟨?_, ?_, ?_⟩, ⟨?_, ?_, ?_⟩, ⟨?_, ?_, ?_⟩, ⟨?_, ?_, ?_⟩, ⟨?_, ?_, ?_⟩⟩ <;> decide +kernel
def wN (n : Int) : List Str := ["nets", stI n]
def wQ (q : Nm) : List Str := ["name", q.2, stI q.1]
def wV (v : Dev) : List Str := ["device", v.k, stI v.g, stI v.a, stI v.b, stI v.w, stI v.l]
abbrev lnW (ws : List Str) : Str := Str.join " " ws
def wsC (n : Int) (N : List Nm) (V : List Dev) : List (List Str) := wN n :: (N.map wQ ++ V.map wV)
def txC (n : Int) (N : List Nm) (V : List Dev) : Str := Str.join "\n" ((wsC n N V).map lnW)
structure TxOk (n : Int) (N : List Nm) (V : List Dev) : Prop where
  ok : CirOk n N V
  w : ∀ v ∈ V, v.w < 10 ^ 30 ∧ v.l < 10 ^ 30
theorem rd_small {i n : Int} (h : 0 ≤ i ∧ i < n) (hn : n ≤ 200) : RdI i := ⟨by omega⟩
theorem TxOk.q {n : Int} {N : List Nm} {V : List Dev} (t : TxOk n N V) {q : Nm} (h : q ∈ N) : RdI q.1 ∧ nameB q.2 = true := ⟨rd_small (t.ok.nm q h).1 t.ok.nn.2, (t.ok.nm q h).2⟩
structure DvT (v : Dev) : Prop where
  k : v.k = ("n" : Str) ∨ v.k = ("p" : Str)
  g : RdI v.g
  a : RdI v.a
  b : RdI v.b
  w : RdI v.w
  l : RdI v.l
theorem TxOk.v {n : Int} {N : List Nm} {V : List Dev} (t : TxOk n N V) {v : Dev} (h : v ∈ V) : DvT v := by
  have o := t.ok.dv v h
  have hn := t.ok.nn
  have hw := t.w v h
  have := o.g; have := o.e; have := o.w; have := o.l
  exact ⟨o.k, ⟨by omega⟩, ⟨by omega⟩, ⟨by omega⟩, ⟨by omega⟩, ⟨by omega⟩⟩
theorem wQ_ok {q : Nm} (h : RdI q.1 ∧ nameB q.2 = true) : ∀ w ∈ wQ q, WOk w := fun w hw => by
  have : w = "name" ∨ w = q.2 ∨ w = stI q.1 := by simpa [wQ] using hw
  rcases this with rfl | rfl | rfl
  · exact lit_w.2.1
  · exact name_w h.2
  · exact h.1.w
theorem wV_ok {v : Dev} (h : DvT v) : ∀ w ∈ wV v, WOk w := fun w hw => by
  have : w = "device" ∨ w = v.k ∨ w = stI v.g ∨ w = stI v.a ∨ w = stI v.b ∨ w = stI v.w ∨ w = stI v.l := by simpa [wV] using hw
  rcases this with rfl | rfl | rfl | rfl | rfl | rfl | rfl
  · exact lit_w.2.2.1
  · rcases h.k with e | e <;> rw [e]
    · exact lit_w.2.2.2.1
    · exact lit_w.2.2.2.2
  · exact h.g.w
  · exact h.a.w
  · exact h.b.w
  · exact h.w.w
  · exact h.l.w
theorem wN_ok {n : Int} (h : RdI n) : ∀ w ∈ wN n, WOk w := fun w hw => by
  have : w = "nets" ∨ w = stI n := by simpa [wN] using hw
  rcases this with rfl | rfl
  · exact lit_w.1
  · exact h.w
theorem TxOk.n {n : Int} {N : List Nm} {V : List Dev} (t : TxOk n N V) : RdI n := ⟨by have := t.ok.nn; omega⟩
/-- words of a line -/
theorem TxOk.ws {n : Int} {N : List Nm} {V : List Dev} (t : TxOk n N V) {ws : List Str} (h : ws ∈ wsC n N V) : ws ≠ [] ∧ ws.length ≤ 7 ∧ ∀ w ∈ ws, WOk w := by
  unfold wsC at h
  rw [List.mem_cons, List.mem_append, List.mem_map, List.mem_map] at h
  rcases h with rfl | ⟨q, hq, rfl⟩ | ⟨v, hv, rfl⟩
  · exact ⟨by simp [wN], by simp [wN], wN_ok t.n⟩
  · exact ⟨by simp [wQ], by simp [wQ], wQ_ok (t.q hq)⟩
  · exact ⟨by simp [wV], by simp [wV], wV_ok (t.v hv)⟩
theorem mem_joinL {S : List Nat} {c : Nat} : ∀ {ps : List (List Nat)}, c ∈ TL.joinL S ps → c ∈ S ∨ ∃ p ∈ ps, c ∈ p
  | [], h => by cases h
  | [p], h => .inr ⟨p, List.mem_cons_self, h⟩
  | p :: q :: r, h => by
    have h' : c ∈ p ++ (S ++ TL.joinL S (q :: r)) := h
    rw [List.mem_append, List.mem_append] at h'
    rcases h' with h | h | h
    · exact .inr ⟨p, List.mem_cons_self, h⟩
    · exact .inl h
    · rcases mem_joinL h with h | ⟨x, hx, h⟩
      · exact .inl h
      · exact .inr ⟨x, List.mem_cons_of_mem _ hx, h⟩
theorem sep_tl : TL.tl (" " : Str) = [32] ∧ TL.tl ("\n" : Str) = [10] := by decide +kernel
theorem ln_free {ws : List Str} (h : ∀ w ∈ ws, WOk w) : 10 ∉ TL.tl (lnW ws) := fun m => by
  unfold lnW at m
  rw [TL.tl_join, sep_tl.1] at m
  rcases mem_joinL m with m | ⟨p, hp, m⟩
  · simp at m
  · obtain ⟨w, hw, rfl⟩ := List.mem_map.mp hp
    exact (h w hw).l m
theorem ln_len {ws : List Str} (h : ∀ w ∈ ws, WOk w) (hl : ws.length ≤ 7) : (lnW ws).length ≤ 400 := by
  have h0 := join_len " " ws
  have h1 := sumL_le (k := 41) (zs := ws) fun w hw => (h w hw).n
  have := lens.2.2.2.1
  rw [this] at h0
  unfold lnW
  have : 41 * ws.length ≤ 41 * 7 := Nat.mul_le_mul_left _ hl
  omega
theorem ln_split {ws : List Str} (hne : ws ≠ []) (h : ∀ w ∈ ws, WOk w) : Txt.split (lnW ws) " " = ws := by
  unfold lnW
  rw [← TL.join_eq]
  exact TL.split_join sep_tl.1 (by decide +kernel) hne fun w hw => (h w hw).s
theorem tx_split {n : Int} {N : List Nm} {V : List Dev} (t : TxOk n N V) : Txt.split (txC n N V) "\n" = (wsC n N V).map lnW := by
  unfold txC
  rw [← TL.join_eq]
  refine TL.split_join sep_tl.2 (by decide +kernel) (by simp [wsC]) fun p hp => ?_
  obtain ⟨ws, hw, rfl⟩ := List.mem_map.mp hp
  exact ln_free (t.ws hw).2.2
theorem wsC_len {n : Int} {N : List Nm} {V : List Dev} (t : TxOk n N V) : (wsC n N V).length ≤ 1201 := by
  have := t.ok.nl; have := t.ok.vl
  simp only [wsC, List.length_cons, List.length_append, List.length_map]; omega
theorem tx_room {n : Int} {N : List Nm} {V : List Dev} (t : TxOk n N V) : sumL ((wsC n N V).map lnW) + ((wsC n N V).map lnW).length * ("\n" : Str).length ≤ 600000 := by
  have h1 := sumL_le (k := 400) (zs := (wsC n N V).map lnW) fun z hz => by
    obtain ⟨ws, hw, rfl⟩ := List.mem_map.mp hz
    exact ln_len (t.ws hw).2.2 (t.ws hw).2.1
  have h2 := wsC_len t
  rw [List.length_map] at h1 ⊢
  have := lens.2.2.2.2.2
  rw [this]
  have : 400 * (wsC n N V).length ≤ 400 * 1201 := Nat.mul_le_mul_left _ h2
  omega
theorem tx_len {n : Int} {N : List Nm} {V : List Dev} (t : TxOk n N V) : (txC n N V).length ≤ 600000 := Nat.le_trans (join_len _ _) (tx_room t)
theorem e_nets : ("nets " : Str) = ("nets" : Str) ++ (" " : Str) := by decide +kernel
theorem e_name : ("name " : Str) = ("name" : Str) ++ (" " : Str) := by decide +kernel
theorem cat_N (n : Int) : catS ["nets ", stI n] = lnW (wN n) := by
  rw [e_nets]; unfold catS lnW wN
  simp only [List.foldl_cons, List.foldl_nil, Str.join, emp_app, app_assoc]
theorem cat_Q (q : Nm) : catS ["name ", q.2, " ", stI q.1] = lnW (wQ q) := by
  rw [e_name]; unfold catS lnW wQ
  simp only [List.foldl_cons, List.foldl_nil, Str.join, emp_app, app_assoc]
def nm0 : Nm := (0, "")
def dev0 : Dev := ⟨"n", 0, 0, 0, 0, 0⟩
def pN (N : List Nm) (i : Nat) : D := if i < N.length then nmE (N.getD i nm0) else .non
def pV (N : List Nm) (V : List Dev) (i : Nat) : D := if i < N.length then .non else (V.getD (i - N.length) dev0).e
def tWd (N : List Nm) (V : List Dev) (i : Nat) : List Str := if i < N.length then wQ (N.getD i nm0) else wV (V.getD (i - N.length) dev0)
theorem tWd_get {n : Int} {N : List Nm} {V : List Dev} {i : Nat} (h : i < N.length + V.length) : (wsC n N V)[i + 1]? = some (tWd N V i) := by
  unfold wsC tWd
  rw [List.getElem?_cons_succ]
  by_cases hi : i < N.length
  · rw [if_pos hi, List.getElem?_append_left (by rw [List.length_map]; exact hi), List.getElem?_map, List.getElem?_eq_getElem hi, List.getD_eq_getElem?_getD, List.getElem?_eq_getElem hi]; rfl
  · have hv : i - N.length < V.length := by omega
    rw [if_neg hi, List.getElem?_append_right (by rw [List.length_map]; omega), List.length_map, List.getElem?_map, List.getElem?_eq_getElem hv, List.getD_eq_getElem?_getD, List.getElem?_eq_getElem hv]; rfl
theorem take_N {N : List Nm} {i : Nat} (h : i < N.length) : N.take (i + 1) = N.take i ++ [N.getD i nm0] := by
  rw [List.take_add_one, List.getElem?_eq_getElem h, List.getD_eq_getElem?_getD, List.getElem?_eq_getElem h]; rfl
theorem take_V {V : List Dev} {i : Nat} (h : i < V.length) : V.take (i + 1) = V.take i ++ [V.getD i dev0] := by
  rw [List.take_add_one, List.getElem?_eq_getElem h, List.getD_eq_getElem?_getD, List.getElem?_eq_getElem h]; rfl
def lastN (dn : List Nm) : Int := if dn.length = 0 then -1 else (dn.getD (dn.length - 1) nm0).1
theorem lastN_lt {dn : List Nm} {i : Int} (h : ∀ p ∈ dn, p.1 < i) (h0 : 0 ≤ i) : lastN dn < i := by
  unfold lastN
  split
  · omega
  · next hn =>
    have hl : dn.length - 1 < dn.length := by omega
    have : dn[dn.length - 1]? = some (dn.getD (dn.length - 1) nm0) := by rw [List.getD_eq_getElem?_getD, List.getElem?_eq_getElem hl]; rfl
    exact h _ (List.mem_of_getElem? this)
/-- the name at i, behind the ones before -/
theorem name_new {n : Int} {N : List Nm} {V : List Dev} (t : TxOk n N V) (asc : N.Pairwise (fun p q => p.1 < q.1)) {i : Nat} (h : i < N.length) : (∀ p ∈ N.take i, p.1 < (N.getD i nm0).1) ∧ (N.getD i nm0).2 ∉ (N.take i).map (·.2) ∧ (N.getD i nm0) ∈ N := by
  have e : N[i]? = some (N.getD i nm0) := by rw [List.getD_eq_getElem?_getD, List.getElem?_eq_getElem h]; rfl
  have hs : N.take (i + 1) = N.take i ++ [N.getD i nm0] := take_N h
  have s1 : (N.take (i + 1)).Pairwise (fun p q => p.1 < q.1) := asc.sublist (List.take_sublist _ _)
  rw [hs] at s1
  have s2 : ((N.take (i + 1)).map (·.2)).Nodup := t.ok.d2.sublist ((List.take_sublist _ _).map _)
  rw [hs, List.map_append] at s2
  refine ⟨fun p hp => (List.pairwise_append.mp s1).2.2 p hp _ (List.mem_singleton_self _), fun m => ?_, List.mem_of_getElem? e⟩
  exact (List.nodup_append.mp s2).2.2 _ m _ (List.mem_singleton_self _) rfl
theorem at_lastN {dn : List Nm} (h : dn.length ≠ 0) : atI (dn.map nmE) (-1) = some (nmE (dn.getD (dn.length - 1) nm0)) := by
  unfold atI
  rw [show ixN (dn.map nmE).length (-1) = some (dn.length - 1) by rw [List.length_map]; unfold ixN; rw [if_neg (by omega), if_pos (by omega)]; congr 1; omega]
  show (dn.map nmE)[dn.length - 1]? = _
  have hl : dn.length - 1 < dn.length := by omega
  rw [List.getElem?_map, List.getElem?_eq_getElem hl, List.getD_eq_getElem?_getD, List.getElem?_eq_getElem hl]; rfl
theorem pN_some {N : List Nm} {i : Nat} (h : (!isNon (pN N i)) = true) : i < N.length := by
  refine Classical.byContradiction fun z => ?_
  unfold pN at h
  rw [if_neg z] at h
  cases h
theorem pN_none {N : List Nm} {i : Nat} (h : (!isNon (pN N i)) = false) : ¬ i < N.length := fun z => by
  unfold pN at h
  rw [if_pos z] at h
  cases h
theorem pV_none {N : List Nm} {V : List Dev} {i : Nat} (hc : ¬ i < N.length) (h : (!isNon (pV N V i)) = false) : False := by
  unfold pV at h
  rw [if_neg hc] at h
  cases h
theorem nm_if {N : List Nm} {V : List Dev} {i : Nat} {k : Bool} (hk : k = !((V.take (i - N.length)).map Dev.e).isEmpty) : (if k = true then D.non else pN N i) = pN N i := by
  by_cases hc : i < N.length
  · have e : i - N.length = 0 := by omega
    rw [e] at hk
    subst hk; rfl
  · unfold pN
    rw [if_neg hc]
    split <;> rfl
theorem st_nm {N : List Nm} {V : List Dev} {i : Nat} (hc : i < N.length) : (N.take (i + 1)).map nmE = (N.take i).map nmE ++ [pN N i] ∧ (V.take (i + 1 - N.length)).map Dev.e = (V.take (i - N.length)).map Dev.e := by
  refine ⟨?_, ?_⟩
  · rw [take_N hc, List.map_append]; unfold pN; rw [if_pos hc]; rfl
  · rw [show i + 1 - N.length = 0 by omega, show i - N.length = 0 by omega]
theorem st_dv {N : List Nm} {V : List Dev} {i : Nat} (hc : ¬ i < N.length) (h : i < N.length + V.length) : (N.take (i + 1)).map nmE = (N.take i).map nmE ∧ (V.take (i + 1 - N.length)).map Dev.e = (V.take (i - N.length)).map Dev.e ++ [pV N V i] := by
  refine ⟨?_, ?_⟩
  · rw [List.take_of_length_le (by omega), List.take_of_length_le (by omega)]
  · rw [show i + 1 - N.length = (i - N.length) + 1 by omega, take_V (by omega), List.map_append]; unfold pV; rw [if_neg hc]; rfl
theorem getD_inV {V : List Dev} {i : Nat} (h : i < V.length) : V.getD i dev0 ∈ V := by
  have : V[i]? = some (V.getD i dev0) := by rw [List.getD_eq_getElem?_getD, List.getElem?_eq_getElem h]; rfl
  exact List.mem_of_getElem? this
theorem tx_enum {n : Int} {N : List Nm} {V : List Dev} : enumK 2 (cutD ((wsC n N V).map fun ws : List Str => D.lst (ws.map D.str)) (some 1) none) = (List.range (N.length + V.length)).map fun (i : Nat) => D.tup [.int (((2 : Nat) : Int) + (i : Int)), .lst ((tWd N V i).map D.str)] := by
  have e0 : cutD ((wsC n N V).map fun ws : List Str => D.lst (ws.map D.str)) (some 1) none = (N.map wQ ++ V.map wV).map fun ws : List Str => D.lst (ws.map D.str) := by
    rw [cutDrop _ (by decide)]; rfl
  rw [e0]
  have hl : (N.map wQ ++ V.map wV).length = N.length + V.length := by simp
  refine List.ext_getElem? fun i => ?_
  by_cases h : i < N.length + V.length
  · have h2 := tWd_get (n := n) h
    unfold wsC at h2
    rw [List.getElem?_cons_succ] at h2
    unfold enumK
    rw [List.getElem?_zipWith, List.length_map, hl, List.getElem?_range h, List.getElem?_map, h2, List.getElem?_map, List.getElem?_range h]; rfl
  · rw [List.getElem?_eq_none (by rw [enumK_len, List.length_map, hl]; omega), List.getElem?_eq_none (by rw [List.length_map, List.length_range]; omega)]
theorem litC_len : ("nets " : Str).length = 5 ∧ ("name " : Str).length = 5 ∧ ("device " : Str).length = 7 ∧ (" " : Str).length = 1 := by decide +kernel
theorem last_if {dn : List Nm} : (if (!(dn.map nmE).isEmpty) = true then (dn.getD (dn.length - 1) nm0).1 else -1) = lastN dn := by
  unfold lastN
  cases dn with
  | nil => rfl
  | cons p r => rfl
theorem drawn_small {c nets most : Int} : ∀ v ∈ cV c nets most, v.w ≤ 3 ∧ v.l ≤ 2 := fun v hv => by
  unfold cV qV at hv
  obtain ⟨k, _, rfl⟩ := List.mem_map.mp hv
  refine ⟨?_, ?_⟩
  · show 1 + _ % 3 ≤ 3; omega
  · show 1 + _ / 3 % 2 ≤ 2; omega
theorem DvT.all {v : Dev} (h : DvT v) : ∀ i ∈ ([v.g, v.a, v.b, v.w, v.l] : List Int), RdI i := fun i hi => by
  have hi : i = v.g ∨ i = v.a ∨ i = v.b ∨ i = v.w ∨ i = v.l := by simpa using hi
  rcases hi with rfl | rfl | rfl | rfl | rfl
  · exact h.g
  · exact h.a
  · exact h.b
  · exact h.w
  · exact h.l
theorem ln_N (n : Int) : ("nets " : Str) ++ stI n = lnW (wN n) := by rw [← cat_N, cat_2]
theorem ln_Q (q : Nm) : ("name " : Str) ++ q.2 ++ (" " : Str) ++ stI q.1 = lnW (wQ q) := by
  rw [← cat_Q]; unfold catS; simp only [List.foldl_cons, List.foldl_nil, emp_app]
noncomputable def lsC (n : Int) (N : List Nm) (V : List Dev) : List Str := (wN n :: (N.map wQ ++ V.map wV)).map lnW
theorem lsC_snoc (n : Int) (N : List Nm) (V : List Dev) {i : Nat} {v : Dev} (h : V[i]? = some v) : (lsC n N (V.take (i + 1))).map D.str = (lsC n N (V.take i)).map D.str ++ [.str (lnW (wV v))] := by
  unfold lsC
  rw [List.take_add_one, h]
  simp
theorem lsC_len (n : Int) (N : List Nm) (V : List Dev) : (lsC n N V).length = 1 + N.length + V.length := by
  unfold lsC; simp; omega
end DL
namespace DL
open PySem PySem.Spec PyProof.Rows L2
structure Rz (i : Int) : Prop where
  b : i.natAbs < 10 ^ 30
/-- the digits of a number -/
def dgI (i : Int) : Str := stI (i.natAbs : Int)
theorem Rz.rd {i : Int} (h : Rz i) : RdI (i.natAbs : Int) := ⟨by have := h.b; omega⟩
theorem Rz.sm {i : Int} (h : Rz i) : Sm i := ⟨by have := h.b; omega⟩
theorem stI_pos {i : Int} (h : 0 ≤ i) : stI i = dgI i := by unfold dgI; rw [show ((i.natAbs : Nat) : Int) = i by omega]
theorem stI_min {i : Int} (h : i < 0) : stI i = ("-" : Str) ++ dgI i := by
  have e : i = -((i.natAbs : Nat) : Int) := by omega
  unfold dgI
  conv => lhs; rw [e]
  exact stI_neg (by omega)
theorem minus_tl : ("-" : Str).cps.toList = [45] ∧ ("-" : Str).length = 1 := by decide +kernel
theorem stI_tl {i : Int} (h : i < 0) : (stI i).cps.toList = 45 :: (dgI i).cps.toList := by rw [stI_min h, cps_app, minus_tl.1]; rfl
theorem starts_yes (w : Str) : Txt.startswith (("-" : Str) ++ w) "-" = true := by
  unfold Txt.startswith
  rw [Bool.and_eq_true]
  refine ⟨decide_eq_true (by rw [app_len, minus_tl.2]; omega), ?_⟩
  change ((("-" : Str) ++ w).cps.extract 0 (0 + ("-" : Str).length) == ("-" : Str).cps) = true
  rw [beq_iff_eq, minus_tl.2]
  refine Array.ext' ?_
  rw [Array.toList_extract, cps_app, minus_tl.1]
  simp [List.extract_eq_drop_take]
theorem Rz.starts {i : Int} (h : Rz i) : Txt.startswith (stI i) "-" = decide (i < 0) := by
  rcases Int.lt_or_le i 0 with hi | hi
  · rw [stI_min hi, starts_yes, decide_eq_true hi]
  · rw [stI_pos hi, decide_eq_false (by omega)]; exact h.rd.starts
theorem Rz.int {i : Int} (h : Rz i) : PySem.intText? (stI i) = some i := by
  rcases Int.lt_or_le i 0 with hi | hi
  · have hl : (stI i).length ≤ 31 := by rw [stI_min hi, app_len, minus_tl.2]; have := h.rd.len; unfold dgI; omega
    have e := PySem.intText_neg (stI_tl hi) (by have := h.rd.tl; unfold dgI; rw [this]; exact TL.numL_digits _) (by unfold dgI; exact h.rd.ne) (by omega)
    rw [e]
    have h2 := h.rd.tl
    unfold dgI
    rw [h2, TL.numL_val]
    congr 1; omega
  · rw [stI_pos hi]
    have := h.rd.int
    unfold dgI
    rw [this]; congr 1; omega
theorem Rz.len {i : Int} (h : Rz i) : (stI i).length ≤ 31 := by
  rcases Int.lt_or_le i 0 with hi | hi
  · rw [stI_min hi, app_len, minus_tl.2]; have := h.rd.len; unfold dgI; omega
  · rw [stI_pos hi]; have := h.rd.len; unfold dgI; omega
theorem Rz.w {i : Int} (h : Rz i) : WOk (stI i) := by
  rcases Int.lt_or_le i 0 with hi | hi
  · have hw := h.rd.w
    have e := stI_tl hi
    refine ⟨fun m => ?_, fun m => ?_, by have := h.len; omega⟩
    · have m' : 32 ∈ (stI i).cps.toList := m
      rw [e] at m'
      rcases List.mem_cons.mp m' with z | z
      · cases z
      · exact hw.s z
    · have m' : 10 ∈ (stI i).cps.toList := m
      rw [e] at m'
      rcases List.mem_cons.mp m' with z | z
      · cases z
      · exact hw.l z
  · rw [stI_pos hi]; exact h.rd.w
/-- the word without its sign -/
theorem cut_min {i : Int} (h : i < 0) : cutS (stI i) (some 1) none = dgI i := by
  have e := stI_tl h
  have hl : (stI i).length = (dgI i).cps.toList.length + 1 := by
    have : (stI i).cps.toList.length = (dgI i).cps.toList.length + 1 := by rw [e]; rfl
    rwa [Array.length_toList] at this
  have e1 : HT.sIx (stI i).length 0 (some 1) = 1 := by
    unfold HT.sIx; simp only; rw [hl]; split <;> omega
  refine str_ext ?_
  unfold cutS
  rw [e1]
  show ((stI i).cps.toList.drop 1).take ((stI i).length - 1) = _
  rw [e]
  refine List.take_of_length_le ?_
  show (dgI i).cps.toList.length ≤ _
  omega
/-- a word that may be read -/
theorem Rz.head {i : Int} (h : Rz i) : (decide (stI i = ("0" : Str)) || !decide (sgn ((dgI i).cps.toList.getD 0 0) = ("0" : Str))) = true := by
  have hh := h.rd.head
  rcases Int.lt_or_le i 0 with hi | hi
  · have n0 : (dgI i) ≠ ("0" : Str) := fun e => by
      have e2 := congrArg (fun z : Str => z.cps.toList) e
      have e0 : ("0" : Str).cps.toList = [48] := by decide +kernel
      simp only [e0] at e2
      unfold dgI at e2
      rw [h.rd.tl] at e2
      have := num_first i.natAbs (by omega)
      rw [show ((i.natAbs : Int)).toNat = i.natAbs by omega] at e2
      rw [e2] at this
      exact this rfl
    have hh' : (decide (dgI i = ("0" : Str)) || !decide (sgn ((dgI i).cps.toList.getD 0 0) = ("0" : Str))) = true := hh
    rw [decide_eq_false n0, Bool.false_or] at hh'
    rw [hh', Bool.or_true]
  · rw [stI_pos hi]; exact hh
theorem Rz.dlen {i : Int} (h : Rz i) : (dgI i).length ≤ 30 := h.rd.len
end DL
namespace DL
open PySem PySem.Spec PyProof.Rows L2
/-- alike but for a dict at a, that is locked in one -/
structure FzK (a : Addr) (t : List (Key × V)) (H H' : Hp) : Prop where
  at1 : Rd H a (.dK t)
  at2 : Rd H' a (.dK t)
  ne : ∀ b, b ≠ a → H' b = H b
theorem FzK.rd {a : Addr} {t : List (Key × V)} {H H' : Hp} (f : FzK a t H H') {b : Addr} {u : HO} (hu : ∀ o x, u ≠ .frz o x) (h : Rd H b u) : Rd H' b u := by
  by_cases e : b = a
  · subst e
    rw [Rd.uniq h f.at1 hu (fun _ _ z => by cases z)]
    exact f.at2
  · rcases h with h | ⟨o, h⟩
    · exact .inl (by rw [f.ne b e]; exact h)
    · exact .inr ⟨o, by rw [f.ne b e]; exact h⟩
end DL
namespace DL
open PySem PySem.Spec PyProof.Rows L2
def PrD (K : PySem.W.Frag) (H : Hp) : List (Key × D) → List (V × V) → Prop
  | [], ps => ps = []
  | (k, d) :: r, ps => ∃ v t, ps = (kV k, v) :: t ∧ DR K H d v ∧ PrD K H r t
theorem PrD.mono {K : PySem.W.Frag} {H H' : Hp} (s : Same H H') : ∀ {kds : List (Key × D)} {ps : List (V × V)}, PrD K H kds ps → PrD K H' kds ps
  | [], ps, h => h
  | (k, d) :: r, ps, h => by
    obtain ⟨v, t, rfl, h1, h2⟩ := h
    exact ⟨v, t, rfl, DR.mono s _ _ h1, PrD.mono s h2⟩
end DL
namespace DL
open PySem PySem.Spec PyProof.Rows L2
local instance (priority := 2000) keyBEq25 : BEq Key := instBEqOfDecidableEq
section
variable {X : Cx} {ρ : En} {pos : Pos}
/-- a dict of the module, its keys texts: what stands at one of them -/
structure KdL (K : PySem.W.Frag) (w : World) (mg : Str → Option Value) (x z : Str) (d : D) : Prop where
  ex : ∃ p v, mg x = some (.ref p) ∧ KDct K w p z v ∧ ∀ H, DR K H d v
end
end DL
namespace DL
open PySem PySem.Spec PyProof.Rows L2
/-- a def at an address -/
structure FnA (P : Program) (w : World) (K : PySem.W.Frag) (mg : Str → Option Value) (base : Heap) (f : Addr) (k : Nat) (R : List D → D → Prop) : Prop where
  ex : ∃ fd ps, FnOk P w K mg base CX0 k f fd ps (spR K R) ∧ PySem.W.keepIn K (.ref f) = true ∧ Binds K fd ps []
/-- the dict x of the module has the key z -/
structure KdI (K : PySem.W.Frag) (w : World) (mg : Str → Option Value) (x z : Str) : Prop where
  ex : ∃ p es n u, mg x = some (.ref p) ∧ KDict K w p es n ∧ PySem.W.nsIn K p z = some (some u)
end DL
namespace DL
open PySem PySem.Spec PyProof.Rows L2
/-- the dict x of the module gives for the text z the def g of the module -/
structure KdR (K : PySem.W.Frag) (w : World) (mg : Str → Option Value) (x z g : Str) : Prop where
  ex : ∃ f, mg g = some (.ref f) ∧ KdL K w mg x z (.ad f)
  has : KdI K w mg x z
theorem KdR.fn {P : Program} {w : World} {K : PySem.W.Frag} {mg : Str → Option Value} {base : Heap} {x z g : Str} {k : Nat} {R : List D → D → Prop} (h : KdR K w mg x z g) (G : Fn P w K mg base g k R) : ∃ f, KdL K w mg x z (.ad f) ∧ FnA P w K mg base f k R := by
  obtain ⟨f, h1, h2⟩ := h.ex
  obtain ⟨f', fd, ps, F, hm, hk, hb⟩ := G.ex
  have e := h1.symm.trans hm
  cases e
  exact ⟨f, h2, fd, ps, F, hk, hb⟩
end DL
namespace DL
open PySem PySem.Spec PyProof.Rows L2
/-- ValueError.__init__ bound to e, called -/
theorem mw_call {prog : Program} {w : World} {A : Around} {E : Value → Shared → Prop} {h : Heap} {g : Array GenState} {d : Drawn} {t : Nat} {os : OsState} {nm q : Str} {C N u e t0 : Addr} {bs bm : List Value} {sn : List Str} {sub : List Value} {ab : Bool} {col : Option Bool} {dd : Option Addr} {k0 k1 k2 k3 k5 : Option Value} {rest : List Value} {Q : Value → Shared → Prop}
    (hC : h.get? C = some (excClassObj nm q C N bs bm true sn sub ab col dd k0 k1 k2 k3 k5 "ValueError.__new__")) (he : h.get? e = some (HandSPX.excO C t0)) (hu : h.get? u = some (PySem.W.kxs_mw "ValueError.__init__" e)) (hr : rest.length ≤ sizeLine)
    (hq : ∀ h' t1, (∀ b o, b ≠ e → h.get? b = some o → h'.get? b = some o) → h'.get? e = some (HandSPX.excO C t1) → Q .none ⟨h', g, d, t, os⟩) : wpAny (model prog w) A (call (.ref u) rest) Q E ⟨h, g, d, t, os⟩ := by
  have FB := F.excBase_ValueError
  refine wpAny_call (codeAny_of_tree (show wpAny (model prog w) A.in1 (callAny (.ref u) ⟨rest, []⟩) _ _ _ from ?_))
  unfold callAny
  refine wpAny_bind (wpAny_load hu ?_)
  have e1 : (Value.type "method-wrapper" == Value.type "method" || Value.type "method-wrapper" == Value.type "builtin_function_or_method" || Value.type "method-wrapper" == Value.type "method-wrapper") = true := by decide
  simp only [PySem.W.kxs_mw, e1, if_true]
  refine PySem.W.KFB.if_so (by decide) (wpAny_bind (PySem.W.check_bound_init FB.toExcCallFacts hC he rfl (wpAny_bind (wpAny_pure (wpAny_pure ⟨plainId_quiet FB.init.plain _, codeAny_builtin FB.initEntry ?_⟩)))))
  refine PySem.W.exc_init_tree (cls := .ref C) (t0 := t0) (dv := none) (c2 := .none) (c3 := .none) (b4 := .bool false) he hr fun h' k1 k2 _ => ?_
  exact hq h' _ k1 k2
end DL
namespace DL
open PySem PySem.Spec PyProof.Rows L2 NdefX
/-- what the written part says of an __init__ that says super() -/
structure SupK (P : Program) (K : PySem.W.Frag) (mg : Str → Option Value) (C fI cc c : Addr) (F : NF) : Prop where
  fc : F.cl = [(("__class__" : Str), cc)] ∧ F.c = c
  fn : ∃ oc od osl dV kV doc pm an ct, K.lookup fI = some ⟨oc, od, .func (PySem.W.fnX F.name F.qual F.params F.body F.scope F.cl dV kV doc pm an (.ref F.c) ct), osl⟩
  cd : PySem.W.codeIn K (.ref F.c) F.qual = true
  cell : ∃ cl cld csl, K.lookup cc = some ⟨cl, cld, .cell (some (.ref C)), csl⟩
  file : ∃ ccl cdd ccs vs fl tf, K.lookup F.c = some ⟨ccl, cdd, .fields vs, ccs⟩ ∧ vs[2]? = some (.str fl tf) ∧ ((P.main.file : Str) == fl) = true
  top : (P.main.scope.names.lookup ("super" : Str)).isSome = false
  arg : ∃ ar : Arg, (F.params.posonlyargs ++ F.params.args).head? = some ar ∧ ar.arg = ("self" : Str)
  sup : mg "super" = none
  mro : PySem.W.mroIn K C (.ref C) = some true
  opq : PySem.W.nsIn K cStatics "thirdparty.any" = some none
  ini : PySem.W.ks_superIn K C C "__init__" = some (some (.builtin "ValueError.__init__"))
  ve : PySem.W.subIn K (.ref C) (.type "ValueError") = some true
section
variable {CX : CXT} {P : Program} {w : World} {K : PySem.W.Frag} {mg : Str → Option Value} {base : Heap} {N : List Str} {F : NF} {fI C cc c a : Addr} {A : Around} {outer : List Env} {s : Shared} {H0 : Hp} {E : XK} {pins : List (Addr × Obj)} {σ : L2.St} {H : Hp} {t : TA} {R : Hp → Prop}
theorem sup_stmt {s0 : Shared} {body : List Stmt} {e : Expr} {p0 p1 ap pos pos2 : Pos} {pl : Sem Bool} (S : SupK P K mg C fI cc c F) (T : OexC K C) (I : Inv (ncx CX P w K mg base N F fI A outer s H0 E) pins σ H s0) (h0 : σ[0]? = some (some (.ref a))) (hN : N[0]? = some ("self" : Str))
    (ea : H a = some (exo a C none)) (ha : PA (ncx CX P w K mg base N F fI A outer s H0 E) [e] t) (hq : t σ H fun vs H1 => vs.length ≤ 1000 ∧ H1 a = some (exo a C none) ∧ R H1)
    (hks : F.scope.names.lookup ("super" : Str) = some .globalImplicit) (hkc : F.scope.names.lookup ("__class__" : Str) = some .free) (hka : F.scope.names.lookup ("self" : Str) = some .local) (hk : F.scope.kind = .function)
    (hi : interactive (envF F fI s.heap.objs.size) = false) (hs : swapsWith (.Call (.Attribute (.Call (.Name "super" p0) [] [] p1) "__init__" ap) [e] [] pos) none pos2.line (envF F fI s.heap.objs.size) = pure false)
    (he : eval (.Call (.Attribute (.Call (.Name "super" p0) [] [] p1) "__init__" ap) [e] [] pos) (envF F fI s.heap.objs.size) = (do
      let ov ← attributeBase (.Call (.Name "super" p0) [] [] p1) "__init__" (envF F fI s.heap.objs.size) (eval (.Call (.Name "super" p0) [] [] p1) (envF F fI s.heap.objs.size))
      standAt ap.atName
      let (f, first) ← holding [ov] (getMethod ov "__init__" pl)
      callWith pos f first (backTo pos (starEach [e] (envF F fI s.heap.objs.size))) []))
    (hst : starEach [e] (envF F fI s.heap.objs.size) = (false, eval e (envF F fI s.heap.objs.size)) :: starEach [] (envF F fI s.heap.objs.size)) :
    _root_.PySem.wpAt (model P w) (A.deeper (envF F fI s.heap.objs.size)) (.func body (envF F fI s.heap.objs.size)) (exec (.Expr (.Call (.Attribute (.Call (.Name "super" p0) [] [] p1) "__init__" ap) [e] [] pos) pos2) (envF F fI s.heap.objs.size))
      (fun fl s' => fl = .next ∧ ∃ H', Inv (ncx CX P w K mg base N F fI A outer s H0 E) pins σ H' s' ∧ R H') (ncx CX P w K mg base N F fI A outer s H0 E).xe s0 := by
  obtain ⟨oc, od, osl, dV, kV, doc, pm, an, ct, hfn⟩ := S.fn
  obtain ⟨cl, cld, csl, hcell⟩ := S.cell
  obtain ⟨ccl, cdd, ccs, vs0, fl0, tf, hcode, hvs, hfile⟩ := S.file
  obtain ⟨ar, har, har2⟩ := S.arg
  have KX : K.In s0.heap := I.kIn
  obtain ⟨nm, q, Nn, bs, bm, sn, sub, ab, col, dd, k0, k1, k2, k3, k5, hC, hbm⟩ := T.cls
  obtain ⟨mb, hmb1, hmb2⟩ := I.mod.blt
  obtain ⟨m, hns, hl⟩ := I.loc
  obtain ⟨u, ru, lu⟩ := hl 0 "self" (.ref a) hN h0 (.inl hka)
  cases (show u = Value.ref a from ru)
  have hm : m "self" = some (.ref a) := by
    rcases lu with ⟨_, lu⟩ | ⟨hz, _⟩
    · exact lu
    · have hz : F.scope.names.lookup ("self" : Str) = some .cell ∨ F.scope.names.lookup ("self" : Str) = some .free := hz
      rw [hka] at hz
      rcases hz with hz | hz <;> cases hz
  obtain ⟨t1, hx⟩ := exo_at I.hok ea
  refine ks_wpAt_Expr_any ?_ hi hs
  refine ks_wpAt_MethodCall (pl := pl) ?_ he
  refine ks_wpAt_super_base (env := envF F fI s.heap.objs.size) hks hkc (by decide +kernel) rfl (KX _ _ hfn) rfl har rfl (KX _ _ hcode) rfl hvs hfile S.top ?_
  refine PySem.W.ks_loadName_global hk hks (Calls.loadGlobal_builtin (env := envF F fI s.heap.objs.size) (mg := mg) (mb := mb) (by rw [show (envF F fI s.heap.objs.size).globals = mainGlobals from rfl]; exact I.mod.glob.keeps I.bk) S.sup (hmb1.keeps I.bk) ((hmb2 "super" (by decide)).trans (by decide +kernel)) ⟨rfl, ?_⟩)
  refine wpAny_loadName_free hk hkc (c := cc) (v := .ref C) (by rw [show (envF F fI s.heap.objs.size).cells = F.cl from rfl, S.fc.1]; rfl) ⟨_, KX _ _ hcell, rfl⟩ ?_
  rw [har2]
  refine wpAny_loadName_local hk hka hns hm ?_
  obtain ⟨hh, g, d, tk, os⟩ := s0
  have hD1 : hh.get? C = some _ := KX _ _ hC
  refine ks_wpAny_isType_cls hD1 rfl ⟨rfl, ?_⟩
  refine ks_wpAny_call_super hD1 rfl hx rfl (fun _ z => nomatch z) (PySem.W.looks_mroIn KX S.mro) fun h1 e1 kp1 => ?_
  have I1 := I.kept (t' := tk) kp1
  have KX1 : K.In h1 := KX.keeps kp1
  have hx1 := kp1 _ _ hx
  have hcl : PySem.W.clsIn K C = some { name := nm, bases := bs, mro := .ref C :: bm, ns := Nn, qualname := q, hasDict := true, slotNames := sn, subclasses := sub, abstract := ab, collection := col, hasDel := false } := by
    unfold PySem.W.clsIn; rw [hC] <;> rfl
  have ia : PySem.W.InstAt h1 a (HandSPX.excO C t1) C none := ⟨hx1, rfl, rfl, trivial⟩
  have hin := S.ini
  unfold PySem.W.ks_superIn at hin
  rw [hcl] at hin
  refine PySem.W.kxs_getMethod PySem.W.kxs_ValueError e1 (PySem.W.looks_opaque KX1 S.opq) (l₀ := .ref C :: bm) ?_ rfl KX1 hin (ia.type.andThen (PySem.W.looks_subIn KX1 S.ve)) (PySem.W.ks_ne KX1 ia hcl) (by decide +kernel) ?_
  · exact fun A2 Q2 E2 s2 k2 q2 => wpAny_bind ((PySem.W.looks_clsIn KX1 hcl) A2 _ E2 s2 k2 (wpAny_pure q2))
  have I2 : Inv (ncx CX P w K mg base N F fI A outer s H0 E) ((h1.objs.size, PySem.W.kxs_mw "ValueError.__init__" a) :: pins) σ H ⟨h1.push (PySem.W.kxs_mw "ValueError.__init__" a), g, d, tk + 1, os⟩ :=
    ClX.pin_new (t' := tk + 1) I1 (fun b o z => Heap.get?_push_of_some _ z) (Nat.le_refl _) (Heap.get?_push_at rfl rfl) (fun _ z => nomatch z)
  have hrun := ha.run pos _ _ σ H _ I2 hq
  change wpAny (model P w) (A.deeper (envF F fI s.heap.objs.size)) (spliced (backTo pos (starEach [e] (envF F fI s.heap.objs.size)))) _ _ _ at hrun
  rw [hst] at hrun ⊢
  refine PySem.W.kxs_callWith (i := "ValueError.__init__") (x := a) rfl (Calls.evalArgs_plain (wpAny_mono hrun (fun us s3 hz => ?_) fun _ _ z => z))
  obtain ⟨vs, H1, I3, rv, hlen, ea1, q3⟩ := hz
  refine ⟨ClX.pin_at I3, ?_⟩
  obtain ⟨t2, hx3⟩ := exo_at I3.hok ea1
  have hu3 := ClX.pin_at I3
  have I4 := ClX.unpin I3
  obtain ⟨h3, g3, d3, tk3, os3⟩ := s3
  refine mw_call (I4.kIn _ _ hC) hx3 hu3 (by show us.length ≤ sizeLine; rw [← rv.length, sizeLine_eq]; omega) fun h4 t4 kp4 hx4 => ⟨rfl, H1, ?_, q3⟩
  have J := I4.write (t' := tk3) (x := a) (e := a) (o := exo a C none) (by rw [ea1]; exact True.intro) (.inl rfl) kp4 ⟨_, hx4⟩ (exo_ok hx4)
  have eu : upd H1 a (exo a C none) = H1 := by
    funext b
    by_cases hb : b = a
    · rw [hb, upd_same, ea1]
    · rw [upd_ne hb]
  rw [eu] at J
  exact J
end
end DL
namespace DL
open PySem PySem.Spec PyProof.Rows L2 NdefX
/-- what an __init__ of errors is told: the object at a, its arguments; what its fields hold (the last one first) -/
def spE (K : PySem.W.Frag) (C : Addr) (ns : List Str) (R : List D → List D → Prop) : Sp := fun vs H Q _ => ∃ H0 a ds es ws, vs = .ref a :: ws ∧ Same H0 H ∧ H a = some (exo a C none) ∧ H0 a = none ∧ DRs K H0 ds ws ∧ R ds es ∧
  ∀ dx us H0' H', JH H0 (er H a) H0' H' → H0' a = none → H' a = some (exo a C (some dx)) → H' dx = some (exd dx (ns.zip us)) → H dx = none → H0' dx = none → ns.length = us.length → DRs K H0' es us → Q .non H'
section
variable {P : Program} {w : World} {K : PySem.W.Frag} {mg : Str → Option Value} {base : Heap} {N ps : List Str} {F : NF} {fI C cc c : Addr} {k : Nat} {R : List D → List D → Prop} {f1 : Str}
theorem startF_start {N : List Str} {vs : List V} (h : vs.length + 1 ≤ N.length) : startF N vs [none] = L2.start N vs := by
  unfold startF L2.start
  have e : N.length - vs.length = (N.length - vs.length - 1) + 1 := by omega
  rw [e, List.replicate_succ]
  simp
/-- def __init__(self, ..): super().__init__(e); self.f1 = e1 -/
theorem fn_okE1 {e e1 : Expr} {p0 p1 ap pos pos2 p3 p4 p5 : Pos} {pl : Sem Bool} (S : SupK P K mg C fI cc c F) (T : OexC K C) (NS : NScope N ps ["__class__"] F.scope) (hN : N[0]? = some ("self" : Str)) (hNc : N[0]? ≠ none)
    (hR : ∀ ds es, R ds es → ds.length + 1 = ps.length) (hb : F.body = [.Expr (.Call (.Attribute (.Call (.Name "super" p0) [] [] p1) "__init__" ap) [e] [] pos) pos2, .Assign [.Attribute (.Name "self" p3) f1 p4] e1 p5])
    (hf1 : PySem.W.findIn K (.ref C) f1 = some none)
    (hks : F.scope.names.lookup ("super" : Str) = some .globalImplicit) (hkc : F.scope.names.lookup ("__class__" : Str) = some .free) (hka : F.scope.names.lookup ("self" : Str) = some .local)
    (hi : ∀ L, interactive (envF F fI L) = false) (hs : ∀ L, swapsWith (.Call (.Attribute (.Call (.Name "super" p0) [] [] p1) "__init__" ap) [e] [] pos) none pos2.line (envF F fI L) = pure false)
    (he : ∀ L, eval (.Call (.Attribute (.Call (.Name "super" p0) [] [] p1) "__init__" ap) [e] [] pos) (envF F fI L) = (do
      let ov ← attributeBase (.Call (.Name "super" p0) [] [] p1) "__init__" (envF F fI L) (eval (.Call (.Name "super" p0) [] [] p1) (envF F fI L))
      standAt ap.atName
      let (f, first) ← holding [ov] (getMethod ov "__init__" pl)
      callWith pos f first (backTo pos (starEach [e] (envF F fI L))) []))
    (hst : ∀ L, starEach [e] (envF F fI L) = (false, eval e (envF F fI L)) :: starEach [] (envF F fI L)) (hs2 : ∀ L, swapsWith e1 (some (.Attribute (.Name "self" p3) f1 p4)) p5.line (envF F fI L) = pure false)
    (body : ∀ (a : Addr) ds es, R ds es → ∀ (A : Around) (outer : List Env) (s : Shared) (H : Hp) (E : XK), Room k (A.deeper (envF F fI s.heap.objs.size)) →
      ∃ z d1, ED (ncx CX0 P w K mg base N F fI A outer s H E) (en N (.ad a :: ds)) e (.str z) ∧ ED (ncx CX0 P w K mg base N F fI A outer s H E) (en N (.ad a :: ds)) e1 d1 ∧ ED (ncx CX0 P w K mg base N F fI A outer s H E) (en N (.ad a :: ds)) (.Name "self" p3) (.ad a) ∧ es = [d1]) {dV kV doc pm ct : Value} {ann : Option Addr} {oc : Value} {od : Option Addr} {osl : Array (Option Value)}
    (lk : K.lookup fI = some ⟨oc, od, .func (PySem.W.fnX F.name F.qual F.params F.body F.scope F.cl dV kV doc pm ann (.ref F.c) ct), osl⟩) :
    FnOk P w K mg base CX0 (k + 1) fI (PySem.W.fnX F.name F.qual F.params F.body F.scope F.cl dV kV doc pm ann (.ref F.c) ct) ps (spE K C [f1] R) := by
  refine ⟨fun vs H Q E hs => ?_, fun A outer s H args us vs Q E hr e0 hbd r hsp => ?_⟩
  · obtain ⟨H0, a, ds, es, ws, rfl, _, _, _, r, q, _⟩ := hs
    rw [List.length_cons, ← DRs.length r]; exact hR ds es q
  obtain ⟨H0, a, ds, es, ws, rfl, s0, ha, h0, r0, q, kk⟩ := hsp
  have hl : ds.length + 1 = ps.length := hR ds es q
  have hlw := DRs.length r0
  have KX : K.In s.heap := e0.mod.kin.keeps fun b o z => (e0.bs b o z).1
  have lim : s.heap.NoLimit := e0.mod.nolimit.keeps fun b o z => (e0.bs b o z).1
  have pre := congrArg List.length NS.pre
  rw [List.length_take, List.length_append] at pre
  simp only [List.length_cons, List.length_nil] at pre
  obtain ⟨cl, cld, csl, hcell⟩ := S.cell
  have cellH : s.heap.IsCell cc (some (.ref C)) := ⟨_, KX _ _ hcell, rfl⟩
  have ccN : H cc = none := by
    have := e0.mod.kin _ _ hcell
    exact (e0.bs _ _ this).2
  have CA : CellsAt F.cl ["__class__"] [none] s.heap H := by
    refine ⟨rfl, fun y c' hc' => ?_, fun x y c' h1 h2 => ?_, fun i y hy => ?_⟩
    · rw [S.fc.1] at hc'
      have : c' = cc := by
        simp only [List.lookup] at hc'
        split at hc'
        · exact (Option.some.inj hc').symm
        · cases hc'
      subst this
      exact ⟨ccN, _, cellH⟩
    · rw [S.fc.1] at h1 h2
      simp only [List.lookup] at h1 h2
      have ex : ∀ z : Str, (z == ("__class__" : Str)) = true → z = ("__class__" : Str) := fun z h => by simpa using h
      split at h1
      · rename_i g1
        split at h2
        · rename_i g2
          rw [ex _ g1, ex _ g2]
        · cases h2
      · cases h1
    · cases i with
      | zero =>
        have : y = ("__class__" : Str) := by simpa using hy.symm
        subst this
        exact ⟨cc, by rw [S.fc.1]; simp [List.lookup], fun v hv => by simp at hv⟩
      | succ i => simp at hy
  refine codeAny_call_function hr.depth (KX _ _ lk) rfl NS.co NS.gen rfl (PySem.W.codeRec_of KX S.cd) (hbd _ _ _ _ ?_)
  refine wpAny_newFunctionEnv NS.nocell (fun ⟨n, _⟩ hy => NS.par n (List.of_mem_zip hy).1) (fun h₁ hns hsb => ⟨lim.fresh _ hsb, ?_⟩) NS.kind
  show codeAny _ _ (.func F.body (envF F fI s.heap.objs.size)) _ _
  refine ks_codeAny_funcAt ?_
  have kp : ∀ b o, s.heap.get? b = some o → h₁.get? b = some o := fun b o z => hsb.extBut b o (Nat.ne_of_lt (Heap.lt_size z)) (Heap.get?_push_of_some _ z)
  have hN1 : (V.ref a :: ws).length + 1 ≤ N.length := by rw [List.length_cons]; omega
  have I : Inv (ncx CX0 P w K mg base N F fI A outer s H E) [] (startF N (.ref a :: ws) [none]) H { s with heap := h₁, toks := s.toks + (ps.zip us).length } := inv_startN NS hr.hd e0 (by rw [List.length_cons, ← hlw]; exact hl) r CA hns kp
  rw [startF_start hN1] at I
  have j0 : J K H0 H (L2.start N (.ref a :: ws)) H0 H (en N (.ad a :: ds)) := j_start s0 (ds := .ad a :: ds) ⟨.ref a, ws, rfl, rfl, r0⟩ (by rw [List.length_cons]; omega)
  obtain ⟨z, d1, b1, b2, b3, rfl⟩ := body a ds es q A outer s H E (hr.deeper _)
  have h00 : (L2.start N (.ref a :: ws))[0]? = some (some (V.ref a)) := by unfold L2.start; simp
  rw [hb]
  refine ks_wpAt_execs_cons (PySem.ks_wpAt_mono (sup_stmt (pl := pl) (R := fun H1 => ∃ G0, JH H0 H G0 H1) S T I h00 hN ha (pa_star (X := ncx CX0 P w K mg base N F fI A outer s H E) (es := [e])) ?_ hks hkc hka NS.kind (hi _) (hs _) (he _) (hst _)) (fun fl s' hz => ?_) fun _ _ z => z)
  · exact ad_cons (X := ncx CX0 P w K mg base N F fI A outer s H E) b1 ad_nil (hst _) H0 H _ H0 H _ j0 fun vs G0 G g rv => ⟨by have := DRs.length rv; simp only [List.length_cons, List.length_nil] at this; omega, g.sB _ _ ha, G0, g⟩
  obtain ⟨rfl, H1, I1, G0, g⟩ := hz
  refine _root_.PySem.wpAt_of_wpAny ?_
  have RP := (pss_cons (ps_ost (X := ncx CX0 P w K mg base N F fI A outer s H E) (f := f1) (p' := p4) (pos := p5) (pe_star (e := .Name "self" p3)) (pe_star (e := e1)) (hs2 _)) pss_nil).run [] s' (L2.start N (.ref a :: ws)) H1 { nx := fun _ H' => Q .non H', rt := Q } I1
    (b2 H0 H _ G0 H1 _ (j0.grow g) fun y L0 L g2 ry => b3 H0 H _ L0 L _ ((j0.grow g).grow g2) fun x M0 M g3 rx => ?_)
  · refine wpAny_mono RP (fun fl s2 hz => ?_) fun _ _ z => z
    have fin : ∀ {σ' : L2.St} {H' : Hp} {v : V} {u : Value}, Inv (ncx CX0 P w K mg base N F fI A outer s H E) [] σ' H' s2 → L2.RelV v u → Q v H' → CE outer P w H s Q u s2 :=
      fun {σ' H' v u} J rv q => ⟨v, H', J.os, J.bare, J.base, J.hok, rv, q⟩
    cases fl with
    | ret u => obtain ⟨v, σ', H', J, rv, q⟩ := hz; exact fin J rv q
    | next => obtain ⟨σ', H', J, q⟩ := hz; exact fin (v := V.non) (u := Value.none) J rfl q
    | brk => obtain ⟨_, _, _, q⟩ := hz; exact q.elim
    | cont => obtain ⟨_, _, _, q⟩ := hz; exact q.elim
  · cases (show x = .ref a from rx)
    have gM : JH H0 H M0 M := (g.trans g2).trans g3
    have M0a : M0 a = none := gM.fr _ _ ha trivial h0
    have Ma : M a = some (exo a C none) := gM.sB _ _ ha
    refine ⟨a, C, rfl, T, hf1, .inl ⟨Ma, fun dx n1 n2 => ?_⟩⟩
    have M0d : M0 dx = none := gM.sh.free n1
    refine kk dx [y] M0 _ ⟨gM.s0, fun b u z => ?_, fun b u z => ?_, fun b u z nt z' => ?_⟩ M0a upd_same (by rw [upd_ne n2]; exact upd_same) (gM.sB.free n1) M0d rfl ⟨y, [], rfl, DR.mono g3.s0 _ _ ry, rfl⟩
    · have hb1 : b ≠ a := fun e => by subst e; rw [M0a] at z; cases z
      have hb2 : b ≠ dx := fun e => by subst e; rw [M0d] at z; cases z
      rw [upd_ne hb1, upd_ne hb2]; exact gM.sh _ _ z
    · have hb1 : b ≠ a := fun e => by subst e; rw [er_same] at z; cases z
      rw [er_ne hb1] at z
      have zM := gM.sB _ _ z
      have hb2 : b ≠ dx := fun e => by subst e; rw [n1] at zM; cases zM
      rw [upd_ne hb1, upd_ne hb2]; exact zM
    · have hb1 : b ≠ a := fun e => by subst e; rw [er_same] at z; cases z
      rw [er_ne hb1] at z
      exact gM.fr _ _ z nt z'
end
end DL
namespace DL
open PySem PySem.Spec PyProof.Rows L2
section
variable {X : Cx} {C fI : Addr} {x : Str} {e : Expr} {es : List Expr} {t : TA} {p pos : Pos}
/-- an own class whose __init__ keeps fields, called: what is made has no context -/
theorem made_own {CX : CXT} {k : Nat} {fd : FuncData} {ps : List Str} {sp : Sp} {pins : List (Addr × Obj)} {σ : L2.St} {H : Hp} {s : Shared} {us : List Value} {vs : List V} {Q : XK} (T : OexC X.K C) (iC : PySem.W.findIn X.K (.ref C) "__init__" = some (some (.ref fI))) (tI : PySem.W.typeIn X.K (.ref fI) = some (.type "function"))
    (F : FnOk X.prog X.w X.K X.mg X.base CX k fI fd ps sp) (hr : Room (k + 1) X.A) (hb : Binds X.K fd ps []) (hx : Passes CX X (fun _ _ _ => False)) (I : Inv X pins σ H s) (rv : Vals vs us) (hz : vs.length ≤ 1000)
    (hq : ∀ a, H a = none → sp (.ref a :: vs) (upd H a (exo a C none)) (fun v H2 => v = .non ∧ ∃ d fs, H2 a = some (exo a C (some d)) ∧ H2 d = some (exd d fs) ∧ H d = none ∧ Q (.ref C) (some d) (upd (L2.del H2 a) d (.xd fs))) (fun _ _ _ => False)) :
    wpAny (model X.prog X.w) X.A (call (.ref C) us) (L2N.MkP X pins σ Q) X.xe s := by
  obtain ⟨hp, g, dr, tk, os⟩ := s
  obtain ⟨_, _, _, _, bm, _, _, _, _, _, _, _, _, _, _, hC, hbm⟩ := T.cls
  let G : Heap := (hp.push (PySem.W.kdv_tup us)).push (PySem.HandSPX.excO C hp.objs.size)
  have grow : ∀ b u, hp.get? b = some u → G.get? b = some u := fun b u z => Heap.get?_push_of_some _ (Heap.get?_push_of_some _ z)
  have ge : G.get? (hp.objs.size + 1) = some (PySem.HandSPX.excO C hp.objs.size) := by show Heap.get? ((hp.push _).push _) _ = _; heap_get
  have J : Inv X pins σ (upd H (hp.objs.size + 1) (exo (hp.objs.size + 1) C none)) ⟨G, g, dr, tk, os⟩ := I.laid (t' := tk) grow (Nat.le_succ _) (exo_ok ge)
  have h0 := hq (hp.objs.size + 1) (I.hok.fresh (Nat.le_succ _))
  have rs : Vals (V.ref (hp.objs.size + 1) :: vs) (Value.ref (hp.objs.size + 1) :: us) := .cons rfl rv
  have bs := hb ⟨G, g, dr, tk, os⟩ (Value.ref (hp.objs.size + 1) :: us) J.kIn (by rw [List.append_nil, ← rs.length]; exact F.len _ _ _ _ h0)
  rw [List.append_nil] at bs
  have small : us.length ≤ sizeLine := by rw [← rv.length, sizeLine_eq]; omega
  have run := F.run _ X.stack ⟨G, g, dr, tk, os⟩ _ ⟨Value.ref (hp.objs.size + 1) :: us, []⟩ _ _ _ _ (hr.make C us []) (J.env0.make C us []) bs rs h0
  refine wpAny_call (PySem.HandSPX.call_own PySem.F.excBase_ValueError (fun Y => PySem.HandSPX.refsVE_contains Y bm hbm) (I.kIn _ _ hC) (PySem.W.looks_findIn I.kIn iC) (fun self => PySem.W.bind_fn I.kIn self tI) small (codeAny_mono run fun r s2 back => ?_))
  match r, back with
  | .error _, back => exact hx pins σ _ _ _ s2 J back
  | .ok (.ret u), ⟨v, H2, os2, bare2, un2, hok2, ru, hv, d, fs, ea, ed, hd, q2⟩ =>
    cases hv
    obtain ⟨G2, g2, d2, t2, os'⟩ := s2
    obtain ⟨t0, G3, J3, k3, n3, e3, f3⟩ := mk_end0 (d2 := d2) (t2 := t2) I (Nat.le_succ _) grow un2 hok2 os2 bare2 ea ed hd
    have ctx : L2N.Zn (.ref C) (some d) ({ cls := .ref C, dict := some d, data := .fields #[.ref t0, .none, .none, .none, .bool false, .none] } : Obj) := ⟨rfl, rfl, fun _ z => by cases z; rfl⟩
    exact ⟨ru, hp.objs.size + 1, _, _, ⟨G3, g2, d2, t2, os'⟩, _, _, some d, rfl, J3, k3, n3, e3, ctx, rfl, rfl, f3, rfl, bare2, raises_own T.exC T.tyC, q2⟩
  | .ok .next, back => exact back.elim
  | .ok .brk, back => exact back.elim
  | .ok .cont, back => exact back.elim
theorem pmk_oexN {CX : CXT} {k : Nat} {fd : FuncData} {ps : List Str} {sp : Sp} (T : OexC X.K C) (iC : PySem.W.findIn X.K (.ref C) "__init__" = some (some (.ref fI))) (tI : PySem.W.typeIn X.K (.ref fI) = some (.type "function"))
    (F : FnOk X.prog X.w X.K X.mg X.base CX k fI fd ps sp) (hr : Room (k + 1) X.A) (hb : Binds X.K fd ps []) (hx : Passes CX X (fun _ _ _ => False)) (hg : Gl X x) (hm : X.mg x = some (.ref C)) (ha : PA X (e :: es) t) (hdb : (x == ("__debug__" : Str)) = false := by decide)
    (he : starEach (e :: es) X.env = (false, eval e X.env) :: starEach es X.env := by rfl) (hpl : (backTo pos (starEach es X.env)).any (·.1) = false := by rfl) : L2N.PMk X (.Call (.Name x p) (e :: es) [] pos) (tMkO C sp [] t) := fun pins s σ H Q I h =>
  wpAny_Call_Name_kw (ld_glob I hg hm (PySem.W.callWith_K (h₀ := X.base) I.ok.mod.kin T.kC (thn (ha.run pos pins s σ H _ I h) fun us s1 ⟨vs, H1, I1, rv, hz, q1⟩ => ⟨I1.kIn, made_own T iC tI F hr hb hx I1 rv hz (fun a na => by have z := q1 a na; rw [List.append_nil] at z; exact z)⟩) he hpl) hdb)
end
section
variable {P : Program} {w : World} {K : PySem.W.Frag} {mg : Str → Option Value} {base : Heap}
theorem _root_.L2.Fun.okXN {x qual : Str} {st : Stmt} {f : Addr} {fd : FuncData} {N ps : List Str} {k : Nat} {sp : Sp} (F : Fun K x qual st f fd) (S : FnScope N ps (defScope st)) (len : ∀ vs H Q E, sp vs H Q E → vs.length = ps.length)
    (hbody : ∀ (cdv : Value) (A : Around) (outer : List Env) (s : Shared) (H : Hp) (vs : List V) (Q : VK) (E : XK), Room k (A.deeper (envOfC qual (defScope st) s.heap.objs.size f cdv)) → sp vs H Q E →
      ∃ t, PSs (cxOf (L2N.CX P w) P w K mg base N qual (defScope st) f cdv A outer s H E) (defBody st) t ∧ t { nx := fun _ H' => Q .non H', rt := Q } (L2.start N vs) H) : FnOk P w K mg base (L2N.CX P w) (k + 1) f fd ps sp := by
  obtain ⟨_, _, _, _, _, _, _, _, _, rfl, lk, hcd⟩ := F.ex
  exact fn_of lk hcd S len fun A outer s H vs Q E hr hs => hbody _ A outer s H vs Q E hr hs
end
/-- the context of a def's body, an error of it told with its context -/
abbrev bxN (P : Program) (w : World) (K : PySem.W.Frag) (mg : Str → Option Value) (base : Heap) (N : List Str) (qual : Str) (st : Stmt) (f : Addr) (cdv : Value) (A : Around) (outer : List Env) (s : Shared) (H : Hp) (E : XK) : Cx :=
  cxOf (L2N.CX P w) P w K mg base N qual (defScope st) f cdv A outer s H E
abbrev Err := PySem.W.Frag → Value → Option Addr → Hp → Prop
/-- .. with fields (the last one first) -/
def errF (cn : Str) (ns : List Str) (ds : List D) : Err := fun K v d H0 => ∃ C x vs, PySem.W.nsIn K mainGlobals cn = some (some (.ref C)) ∧ v = .ref C ∧ d = some x ∧ H0 x = some (.xd (ns.zip vs)) ∧ ns.length = vs.length ∧ DRs K H0 ds vs
/-- e lets out such an error -/
def EG (X : Cx) (ρ : En) (e : Expr) (Θ : Err) : Prop := ∀ B0 B σ H0 H (Q : VK) (W : L2.WX), L2N.Takes X W → J X.K B0 B σ H0 H ρ → (∀ v d H0' H', Θ X.K v d H0' → JH H0 H H0' H' → W v d σ H') → RE X e σ H Q
def XG1 (X : Cx) (st : Stmt) (ρ : En) (Θ : Err) (ρx : En) : Prop := ∀ B0 B σ H0 H Dn (W : L2.WX), L2N.Takes X W → J X.K B0 B σ H0 H ρ → (∀ v d σ' H0' H', Θ X.K v d H0' → J X.K B0 B σ' H0' H' ρx → W v d σ' H') → RS X st Dn σ H
def XG (X : Cx) (sts : List Stmt) (ρ : En) (Θ : Err) (ρx : En) : Prop := ∀ B0 B σ H0 H Dn (W : L2.WX), L2N.Takes X W → J X.K B0 B σ H0 H ρ → (∀ v d σ' H0' H', Θ X.K v d H0' → J X.K B0 B σ' H0' H' ρx → W v d σ' H') → RSs X sts Dn σ H
def ThenG (X : Cx) (rest : List Stmt) (Θ : Err) (ρx : En) : Out → Prop
  | .nx ρ => XG X rest ρ Θ ρx
  | _ => False
/-- an own class of errors with an __init__ that keeps fields -/
structure FnEr (P : Program) (w : World) (K : PySem.W.Frag) (mg : Str → Option Value) (base : Heap) (cn : Str) (ns : List Str) (k : Nat) (R : List D → List D → Prop) : Prop where
  ex : ∃ C fI fd ps, PySem.W.nsIn K mainGlobals cn = some (some (.ref C)) ∧ mg cn = some (.ref C) ∧ OexC K C ∧ PySem.W.findIn K (.ref C) "__init__" = some (some (.ref fI)) ∧ PySem.W.typeIn K (.ref fI) = some (.type "function") ∧ FnOk P w K mg base CX0 k fI fd ps (spE K C ns R) ∧ Binds K fd ps []
section
variable {X : Cx} {ρ ρx : En} {Θ : Err} {e : Expr} {st : Stmt} {rest sa sb : List Stmt} {pos : Pos}
theorem xg_head (h : XG1 X st ρ Θ ρx) : XG X (st :: rest) ρ Θ ρx := fun B0 B σ H0 H Dn W tk j k => ⟨_, pss_cons ps_star pss_star, h B0 B σ H0 H _ W tk j k⟩
theorem xg_cons (h : WS X st ρ (ThenG X rest Θ ρx)) : XG X (st :: rest) ρ Θ ρx := fun B0 B σ H0 H Dn W tk j k => by
  refine ⟨_, pss_cons ps_star pss_star, h B0 B σ H0 H _ j fun o ho => ?_⟩
  cases o with
  | nx ρ' => exact fun σ' H0' H' j' => ho B0 B σ' H0' H' Dn W tk j' k
  | bk ρ' => exact ho.elim
  | ct ρ' => exact ho.elim
  | rt d => exact ho.elim
  | ro c => exact ho.elim
  | rc d cs => exact ho.elim
theorem xg_if {c : Expr} {k : Bool} (hc : TD X ρ c k) (h1 : k = true → XG X sa ρ Θ ρx) (h2 : k = false → XG X sb ρ Θ ρx) : XG1 X (.If c sa sb pos) ρ Θ ρx := fun B0 B σ H0 H Dn W tk j kk => by
  refine ⟨_, ps_if pt_star pss_star pss_star, hc B0 B σ H0 H _ j fun H0' H' g => ?_⟩
  cases k with
  | true => exact iteT (h1 rfl B0 B σ H0' H' Dn W tk (j.grow g) kk)
  | false => exact iteF (h2 rfl B0 B σ H0' H' Dn W tk (j.grow g) kk)
/-- if c: .. raise; what follows raises too, or is never reached -/
theorem xg_ifr {c : Expr} {k : Bool} (hc : TD X ρ c k) (h1 : k = true → XG X sa ρ Θ ρx) (h2 : k = false → XG X rest ρ Θ ρx) : XG X (.If c sa [] pos :: rest) ρ Θ ρx := by
  cases k with
  | true => exact xg_head (xg_if hc (fun _ => h1 rfl) fun h => by cases h)
  | false => exact xg_cons (ws_if hc (fun h => by cases h) fun _ => ws_nil (h2 rfl))
/-- if c: ..; one of both ways raises, or what follows does -/
theorem xg_ife {c : Expr} {k : Bool} (hc : TD X ρ c k) (h1 : k = true → XG X sa ρ Θ ρx) (h2 : k = false → XG X sb ρ Θ ρx) : XG X (.If c sa sb pos :: rest) ρ Θ ρx := xg_head (xg_if hc h1 h2)
theorem xg_share (i : Nat) {c : OC} (hi : ρ[i]? = some (.ow c)) (h : XG X rest (ρ.set i (.sh c.d)) Θ ρx) : XG X rest ρ Θ ρx := fun B0 B σ H0 H Dn W tk j k => by
  obtain ⟨H0', j', _⟩ := j.share hi
  exact h B0 B σ H0' H Dn W tk j' k
theorem xg_expr (h : EG X ρ e Θ) (hs : swapsWith e none pos.line X.env = pure false := by rfl) : XG1 X (.Expr e pos) ρ Θ ρ := fun B0 B σ H0 H Dn W tk j k =>
  ⟨_, ps_expr pe_star hs, h B0 B σ H0 H _ W tk j fun v d L0 L t g => k v d σ L0 L t (j.grow g)⟩
/-- raise cn(e, ..), a class whose __init__ keeps fields -/
theorem xg_raiseF {cn : Str} {ns : List Str} {k0 : Nat} {R : List D → List D → Prop} {es : List Expr} {ds fs : List D} {p pos' : Pos} (G : FnEr X.prog X.w X.K X.mg X.base cn ns k0 R) (hr : Room (k0 + 1) X.A) (hg : Gl X cn) (ha : AD X ρ (e :: es) ds) (hR : R ds fs) (hl : ds.length ≤ 1000 := by simp only [List.length_cons, List.length_nil]; decide) (hc : X.calm = true := by rfl) (hdb : (cn == ("__debug__" : Str)) = false := by decide +kernel)
    (he : starEach (e :: es) X.env = (false, eval e X.env) :: starEach es X.env := by rfl) (hpl : (backTo pos (starEach es X.env)).any (·.1) = false := by rfl) :
    XG1 X (.Raise (some (.Call (.Name cn p) (e :: es) [] pos)) none pos') ρ (errF cn ns fs) ρ := fun B0 B σ H0 H Dn W tk j k => by
  obtain ⟨C, fI, fd, ps, hC, hm, T, iC, tI, F, hb⟩ := G.ex
  refine ⟨_, L2N.ps_raise hc tk (pmk_oexN T iC tI F hr hb (fun _ _ _ _ _ _ _ h => h.elim) hg hm pa_star hdb he hpl), ha B0 B σ H0 H _ j fun vs G0 G g r => ⟨by rw [← DRs.length r]; exact hl, fun a na => ?_⟩⟩
  have g0a : G0 a = none := g.sh.free na
  have ee : er (upd G a (exo a C none)) a = G := by
    funext b
    by_cases hb : b = a
    · subst hb; rw [er_same, na]
    · rw [er_ne hb, upd_ne hb]
  rw [List.append_nil]
  refine ⟨G0, a, ds, fs, vs, rfl, fun b u z => ?_, upd_same, g0a, r, hR, fun dx us L0 L gg n1 n2 n3 n4 n5 n6 n7 => ⟨rfl, dx, ns.zip us, n2, n3, ?_, ?_⟩⟩
  · rw [upd_ne (ne_of_none z g0a)]; exact g.sh _ _ z
  · have hda : dx ≠ a := fun z => by subst z; rw [upd_same] at n4; cases n4
    rw [upd_ne hda] at n4; exact n4
  have hda : dx ≠ a := fun z => by subst z; rw [upd_same] at n4; cases n4
  have gd : G dx = none := by rw [upd_ne hda] at n4; exact n4
  rw [ee] at gg
  have s0 : Same L0 (upd L0 dx (.xd (ns.zip us))) := fun b u z => by rw [upd_ne (ne_of_none z n5)]; exact z
  have gN : JH G0 G (upd L0 dx (.xd (ns.zip us))) (upd (L2.del L a) dx (.xd (ns.zip us))) := by
    refine ⟨gg.s0.trans s0, fun b u z => ?_, fun b u z => ?_, fun b u z nt z' => ?_⟩
    · by_cases hb : b = dx
      · subst hb; rw [upd_same] at z ⊢; exact z
      · rw [upd_ne hb] at z ⊢
        have ha2 : b ≠ a := fun q => by subst q; rw [n1] at z; cases z
        rw [L2.del_ne ha2]; exact gg.sh _ _ z
    · have hb : b ≠ dx := fun q => by subst q; rw [gd] at z; cases z
      have ha2 : b ≠ a := fun q => by subst q; rw [na] at z; cases z
      rw [upd_ne hb, L2.del_ne ha2]; exact gg.sB _ _ z
    · have hb : b ≠ dx := fun q => by subst q; rw [gd] at z; cases z
      rw [upd_ne hb]; exact gg.fr _ _ z nt z'
  exact k _ _ σ _ _ ⟨C, dx, us, hC, rfl, rfl, upd_same, n6, DRs.mono s0 _ _ n7⟩ (j.grow (g.trans gN))
end
def spXG (K : PySem.W.Frag) (R : List D → Err → Prop) : Sp := fun vs H _ E => ∃ H0 ds Θ, Same H0 H ∧ DRs K H0 ds vs ∧ R ds Θ ∧ ∀ v d H0' H', Θ K v d H0' → JH H0 H H0' H' → E v d H'
structure FnXG (P : Program) (w : World) (K : PySem.W.Frag) (mg : Str → Option Value) (base : Heap) (x : Str) (k : Nat) (R : List D → Err → Prop) : Prop where
  ex : ∃ f fd ps, FnOk P w K mg base (L2N.CX P w) k f fd ps (spXG K R) ∧ mg x = some (.ref f) ∧ PySem.W.keepIn K (.ref f) = true ∧ Binds K fd ps []
section
variable {P : Program} {w : World} {K : PySem.W.Frag} {mg : Str → Option Value} {base : Heap}
theorem fn_okXG {x qual : Str} {st : Stmt} {f : Addr} {fd : FuncData} {N ps : List Str} {k : Nat} {R : List D → Err → Prop} (F : Fun K x qual st f fd) (S : FnScope N ps (defScope st)) (hR : ∀ ds c, R ds c → ds.length = ps.length)
    (h : ∀ ds c, R ds c → ∀ (cdv : Value) (A : Around) (outer : List Env) (s : Shared) (H : Hp) (E : XK), Room k (A.deeper (envOfC qual (defScope st) s.heap.objs.size f cdv)) →
      ∃ ρx, XG (bxN P w K mg base N qual st f cdv A outer s H E) (defBody st) (en N ds) c ρx) : FnOk P w K mg base (L2N.CX P w) (k + 1) f fd ps (spXG K R) := by
  refine F.okXN S (fun vs H Q E hs => ?_) fun cdv A outer s H vs Q E hr hs => ?_
  · obtain ⟨H0, ds, d, _, r, q, _⟩ := hs
    rw [← DRs.length r]; exact hR ds d q
  · obtain ⟨H0, ds, c, s0, r, q, kk⟩ := hs
    have hN : ds.length ≤ N.length := by
      have h1 := hR ds c q
      have h2 := congrArg List.length S.pre
      rw [List.length_take] at h2
      omega
    obtain ⟨ρx, h0⟩ := h ds c q cdv A outer s H E hr
    obtain ⟨t, h1, h2⟩ := h0 H0 H (L2.start N vs) H0 H { nx := fun _ H' => Q .non H', rt := Q } (fun cls d _ H' => E cls d H') (L2N.takes_of rfl rfl rfl rfl) (j_start s0 r hN) fun v d σ' G0 G t j' => kk v d G0 G t j'.hp
    exact ⟨t, h1, h2⟩
end
section
variable {X : Cx} {ρ ρx : En} {e o : Expr} {es : List Expr} {pos p apos : Pos} {Θ : Err} {ds fds : List D} {ns : List Str} {cn m : Str} {k : Nat} {pl : Sem Bool}
theorem eg_call {x : Str} {R : List D → Err → Prop} (G : FnXG X.prog X.w X.K X.mg X.base x k R) (hr : Room k X.A) (hg : Gl X x) (ha : AD X ρ (e :: es) ds) (hR : R ds Θ)
    (hdb : (x == ("__debug__" : Str)) = false := by decide) (he : starEach (e :: es) X.env = (false, eval e X.env) :: starEach es X.env := by rfl) (hpl : (backTo pos (starEach es X.env)).any (·.1) = false := by rfl) :
    EG X ρ (.Call (.Name x p) (e :: es) [] pos) Θ := fun B0 B σ H0 H Q W tk j k => by
  obtain ⟨f, fd, ps, F, hm, hk, hb⟩ := G.ex
  refine RE.of (pe_callS (E := WE W) F hr hg hm hk hb (fun σ => L2N.passAt tk σ) pa_star hdb he hpl) (ha B0 B σ H0 H _ j fun vs G0 G g r => ?_)
  exact ⟨G0, ds, Θ, g.sh, r, hR, fun v d L0 L t g2 => k v d L0 L t (g.trans g2)⟩
/-- for x in xs: the k-th turn raises -/
theorem xg_for {tg iter : Expr} {body : List Stmt} {α : Type} {zs : List D} (xs : List α) (enc : α → D) (hc : X.calm = true) (hi : ID X ρ tg iter zs) (he : zs = xs.map enc) (I : Nat → En → Prop) (h0 : I 0 ρ) (n : Nat) {y : α} (hn : xs[n]? = some y)
    (hs : ∀ i x ρ', i < n → xs[i]? = some x → I i ρ' → ∃ is ρ'', DG X is tg (enc x) ρ' ρ'' ∧ WSs X body ρ'' (fun o => match o with | .nx r => I (i + 1) r | .ct r => I (i + 1) r | _ => False)) (hx : ∀ ρ', I n ρ' → ∃ is ρ'', DG X is tg (enc y) ρ' ρ'' ∧ XG X body ρ'' Θ ρx)
    (hp : PassesOwn (model X.prog X.w) X.A X.env X.xe) (hf : ∀ x, foldedSetIterable iter X.env x = pure x := by intro _; rfl) : XG1 X (.For tg iter body [] pos) ρ Θ ρx := fun B0 B σ H0 H Dn W tk j kk => by
  subst he
  refine ⟨_, ps_for hp hc pi_star pg_star pss_star hf, hi B0 B σ H0 H _ j fun Jt G0 G g0 ⟨GG, Y, w, hG, hY⟩ => ?_⟩
  have j0 := j.grow g0
  have hnl : n < xs.length := (List.getElem?_eq_some_iff.mp hn).1
  refine for_it w (fun i σ' H1 => i ≤ n ∧ ∃ ρ' L0, I i ρ' ∧ J X.K G0 B σ' L0 H1 ρ') ⟨Nat.zero_le _, ρ, G0, h0, j0.rebase⟩ (fun i σ' H1 _ ⟨_, ρ', L0, _, j1⟩ => hG L0 H1 j1.hp.s0 j1.hp.sh) ?_ ?_
  · rintro i x σ1 H1 H1' hi ⟨hin, ρ1, L0, hI, j1⟩ hy
    have hxl : i < xs.length := by rwa [List.length_map] at hi
    have hxi : xs[i]? = some xs[i] := List.getElem?_eq_getElem hxl
    obtain ⟨L1, g2, rx⟩ := hY i L0 H1 x H1' (enc xs[i]) (by rw [List.getElem?_map, hxi]; rfl) j1.hp.s0 j1.hp.sh hy
    rcases Nat.lt_or_eq_of_le hin with hlt | heq
    · obtain ⟨is, ρ2, hg, hb⟩ := hs i xs[i] ρ1 hlt hxi hI
      refine hg G0 B σ1 L1 H1' x _ (j1.grow g2) rx fun σ2 j2 _ => hb G0 B σ2 L1 H1' _ j2 fun o ho => ?_
      cases o with
      | nx r => exact fun σ3 M0 M j3 => ⟨hlt, r, M0, ho, j3⟩
      | ct r => exact fun σ3 M0 M j3 => ⟨hlt, r, M0, ho, j3⟩
      | bk r => exact ho.elim
      | rt v => exact ho.elim
      | ro c => exact ho.elim
      | rc v cs => exact ho.elim
    · subst heq
      rw [hxi] at hn; cases hn
      obtain ⟨is, ρ2, hg, hb⟩ := hx ρ1 hI
      exact hg G0 B σ1 L1 H1' x _ (j1.grow g2) rx fun σ2 j2 _ => hb G0 B σ2 L1 H1' _ W tk j2 fun v d σ3 M0 M t j3 => kk v d σ3 M0 M t (j0.unbase j3)
  · rintro σ1 H1 ⟨hle, _⟩
    rw [List.length_map] at hle
    omega
end
end DL
namespace DL
open PySem PySem.Spec PyProof.Rows L2
/-- the fields of errors of the class named cn may be read -/
structure Xf (K : PySem.W.Frag) (cn : Str) (ns : List Str) : Prop where
  ex : ∃ C, PySem.W.nsIn K mainGlobals cn = some (some (.ref C)) ∧ XfC K C ∧ ∀ f ∈ ns, PySem.W.findIn K (.ref C) f = some none
/-- what a class object says of an own class of errors -/
def oexD (C : Addr) (cd : ClassData) (sl : Array (Option Value)) : Bool := match cd.mro, sl.toList with
  | .ref C' :: bm, [_, _, _, _, some (.builtin n), _] => decide (C' = C) && (decide (n = "ValueError.__new__") && (!cd.hasDel && (cd.hasDict && PySem.HandSPX.refsVE bm)))
  | _, _ => false
theorem oex_mk {K : PySem.W.Frag} {C : Addr} {dd : Option Addr} {cd : ClassData} {sl : Array (Option Value)} (l : K.lookup C = some ⟨.type "type", dd, .cls cd, sl⟩) (o : oexD C cd sl = true) (sa : PySem.W.findIn K (.ref C) "__setattr__" = some (some (.builtin "object.__setattr__")))
    (ex : PySem.W.subIn K (.ref C) (.type "BaseException") = some true) (ty : PySem.W.typeIn K (.ref C) = some (.type "type")) (kp : PySem.W.keepIn K (.ref C) = true) : OexC K C := by
  refine ⟨?_, sa, ex, ty, kp⟩
  unfold oexD at o
  obtain ⟨nm, bs, mro, nsp, qn, hd, sn, sub, ab, col, del⟩ := cd
  split at o
  · rename_i C' bm k0 k1 k2 k3 n k5 hm hsl
    simp only [Bool.and_eq_true, decide_eq_true_eq, Bool.not_eq_true'] at o
    obtain ⟨rfl, rfl, hdel, hhd, hre⟩ := o
    simp only at hm hdel hhd
    subst hm hdel hhd
    have : sl = #[k0, k1, k2, k3, some (.builtin "ValueError.__new__"), k5] := by rw [← hsl]
    subst this
    exact ⟨nm, qn, nsp, bs, bm, sn, sub, ab, col, dd, k0, k1, k2, k3, k5, l, hre⟩
  · cases o
theorem takes0N {X : Cx} : L2N.Takes X (fun _ _ _ _ => False) := fun _ _ ⟨_, _, _, _, _, _, _, _, _, _, _, _, _, _, _, _, z⟩ => z.elim
section
variable {X : Cx} {ρ ρx : En} {pos : Pos} {Φ : Out → Prop} {cn : Str}
/-- try: .. except xn as n, an error with fields -/
theorem ws_tryF (i : Nat) {body suite : List Stmt} {b0 : Stmt} {n xn : Str} {ns : List Str} {ds : List D} {np pos' : Pos} (hN : X.N.Nodup) (xm : Xm X.K X.mg cn xn) (hg : Gl X xn) (hb : ∀ pn xe, PassesOwn (model X.prog X.w) X.A X.env xe → XG (X.tr pn xe) body ρ (errF cn ns ds) ρx)
    (hs : ∀ a C x oe pn, PySem.W.nsIn X.K mainGlobals cn = some (some (.ref C)) → L2N.Zn (.ref C) (some x) oe → (∃ vs, oe.data = .fields vs) → WSs (X.suite a ((a, oe) :: pn)) (b0 :: suite) (ρx.set i (.sh (.exc a x ns ds))) (Aft i Φ))
    (hi : X.N[i]? = some n := by rfl) (hdb : (xn == ("__debug__" : Str)) = false := by decide +kernel) (hln : X.env.kindOf n = some .local := by rfl) (hst : X.stack = X.env :: X.outer := by rfl) (hf : X.env.frame = some X.env.locals := by rfl) :
    WS X (.Try body [.ExceptHandler (some (.Name xn np)) (some n) (b0 :: suite) pos'] [] [] pos) ρ Φ := fun B0 B σ H0 H Dn j k => by
  obtain ⟨C, D, hC, hD, hex⟩ := xm.ex
  refine ⟨_, L2N.ps_try_as (i := i) (Wout := fun _ _ _ _ => False) (tb := fun W D σ H => ∀ pn xe, L2N.Takes (X.tr pn xe) W → PassesOwn (model X.prog X.w) X.A X.env xe → RSs (X.tr pn xe) body D σ H)
    (ts := fun a cls d D σ H => ∀ oe pn, L2N.Zn cls d oe → (∃ vs, oe.data = .fields vs) → RSs (X.suite a ((a, oe) :: pn)) (b0 :: suite) D σ H) hst hf hN hi hln (show Names X xn (.ref D) from ⟨hg, hdb, .inl hD⟩) takes0N
    (fun W pn xe tk po => ⟨fun pins s σ H D I h => pss_star.run pins s σ H D I (h pn xe tk po)⟩) (fun a oe cls d pn hz hf => ⟨fun pins s σ H D I h => pss_star.run pins s σ H D I (h oe pn hz hf)⟩), ?_⟩
  intro pn xe tk po
  refine hb pn xe po B0 B σ H0 H Dn _ tk j fun v d σ' L0 L t j' => ?_
  obtain ⟨C', x, us, hC', rfl, rfl, hx, hlen, hds⟩ := t
  have hC'' : PySem.W.nsIn X.K mainGlobals cn = some (some (.ref C')) := hC'
  rw [hC] at hC''; cases hC''
  refine ⟨true, hex, fun _ a ha oe pn' hz hfl => ?_, fun z => nomatch z⟩
  refine hs a C x oe pn' hC hz hfl B0 B _ L0 L _ (J.setSh j' (d := .exc a x ns ds) (v := .ref a) ⟨rfl, us, hx, hlen, hds⟩) fun o ho => ?_
  cases o with
  | nx ρ' => exact fun σ'' M0 M j2 => k _ ho _ M0 M (J.setNo j2 i)
  | bk ρ' => exact fun σ'' M0 M j2 => k _ ho _ M0 M (J.setNo j2 i)
  | ct ρ' => exact fun σ'' M0 M j2 => k _ ho _ M0 M (J.setNo j2 i)
  | rt d => exact k _ ho
  | ro c => exact k _ ho
  | rc d cs => exact k _ ho
/-- e.f of an error that a suite holds -/
theorem ed_xfld {a x C : Addr} {oe : Obj} {pn : List (Addr × Obj)} {e : Expr} {f : Str} {ns : List Str} {ds : List D} {d : D} (m : Nat) (xf : Xf X.K cn ns) (hC : PySem.W.nsIn X.K mainGlobals cn = some (some (.ref C))) (hz : L2N.Zn (.ref C) (some x) oe) (hf : ∃ vs, oe.data = .fields vs)
    (he : ED (X.suite a ((a, oe) :: pn)) ρ e (.exc a x ns ds)) (hn : ns[m]? = some f := by rfl) (hd : ds[m]? = some d := by rfl) (hu : (ns.take m).contains f = false := by decide +kernel) (hb : attributeBase e f X.env (eval e X.env) = eval e X.env := by rfl) :
    ED (X.suite a ((a, oe) :: pn)) ρ (.Attribute e f pos) d := fun B0 B σ H0 H Q j k => by
  obtain ⟨C', hC', T, hno⟩ := xf.ex
  rw [hC] at hC'; cases hC'
  refine RE.of (pe_xf T (hno f (List.mem_of_getElem? hn)) hz.zc hf pe_star hb) (he B0 B σ H0 H _ j fun v G0 G g r => ?_)
  obtain ⟨rfl, us, h1, h2, h3⟩ := r
  obtain ⟨v, hv, rv⟩ := DRs.get h3 hd
  exact ⟨rfl, rfl, x, _, v, rfl, g.sh _ _ h1, zip_at hn hu hv, k v G0 G g rv⟩
end
end DL
namespace DL
open PySem PySem.Spec PyProof.Rows L2
section
variable {X : Cx} {ρ ρx : En} {pos : Pos} {Φ : Out → Prop} {cn : Str} {Θ : Err}
theorem ws_tryFS (i : Nat) {body suite : List Stmt} {b0 : Stmt} {n xn : Str} {ns : List Str} {ds : List D} {np pos' : Pos} (hN : X.N.Nodup) (xm : Xm X.K X.mg cn xn) (hg : Gl X xn) (hb : ∀ pn xe, PassesOwn (model X.prog X.w) X.A X.env xe → XG (X.tr pn xe) body ρ (errF cn ns ds) ρ)
    (hs : ∀ a C x oe pn, PySem.W.nsIn X.K mainGlobals cn = some (some (.ref C)) → L2N.Zn (.ref C) (some x) oe → (∃ vs, oe.data = .fields vs) → WSs (X.suite a ((a, oe) :: pn)) (b0 :: suite) (ρ.set i (.sh (.exc a x ns ds))) (Aft i Φ))
    (hi : X.N[i]? = some n := by rfl) (hdb : (xn == ("__debug__" : Str)) = false := by decide +kernel) (hln : X.env.kindOf n = some .local := by rfl) (hst : X.stack = X.env :: X.outer := by rfl) (hf : X.env.frame = some X.env.locals := by rfl) :
    WS X (.Try body [.ExceptHandler (some (.Name xn np)) (some n) (b0 :: suite) pos'] [] [] pos) ρ Φ := ws_tryF i hN xm hg hb hs hi hdb hln hst hf
/-- for x in xs, told slot by slot: the n-th turn raises -/
theorem xg_forU {tg iter : Expr} {body : List Stmt} {α U : Type} {zs : List D} (xs : List α) (enc : α → D) (hc : X.calm = true) (hi : ID X ρ tg iter zs) (he : zs = xs.map enc) (G : Nat → U → List (Nat × Sl)) (V : En → U) (n : Nat) {y : α} (hn : xs[n]? = some y) (hρ : upds ρ (G 0 (V ρ)) = ρ)
    (hs : ∀ i x u, i < n → xs[i]? = some x → ∃ is ρ'', DG X is tg (enc x) (upds ρ (G i u)) ρ'' ∧ WSs X body ρ'' (fun o => match o with | .nx r => upds ρ (G (i + 1) (V r)) = r | .ct r => upds ρ (G (i + 1) (V r)) = r | _ => False))
    (hx : ∀ u, ∃ is ρ'', DG X is tg (enc y) (upds ρ (G n u)) ρ'' ∧ XG X body ρ'' Θ ρx) (hp : PassesOwn (model X.prog X.w) X.A X.env X.xe) (hf : ∀ x, foldedSetIterable iter X.env x = pure x := by intro _; rfl) : XG1 X (.For tg iter body [] pos) ρ Θ ρx := by
  refine xg_for xs enc hc hi he (fun i r => ∃ u, upds ρ (G i u) = r) ⟨_, hρ⟩ n hn (fun i x r hin hxi hI => ?_) (fun r hI => ?_) hp hf
  · obtain ⟨u, rfl⟩ := hI
    obtain ⟨is, r2, h1, h2⟩ := hs i x u hin hxi
    refine ⟨is, r2, h1, ws_mono h2 fun o ho => ?_⟩
    cases o with
    | nx r => exact ⟨_, ho⟩
    | ct r => exact ⟨_, ho⟩
    | bk r => exact ho
    | rt v => exact ho
    | ro c => exact ho
    | rc v cs => exact ho
  · obtain ⟨u, rfl⟩ := hI
    exact hx u
end
end DL
namespace DL
open PySem PySem.Spec PyProof.Rows L2
def nosE (n : Nat) : En := List.replicate n .no
theorem J.nos {K : PySem.W.Frag} {B0 B H0 H : Hp} {σ : L2.St} {ρ : En} {n : Nat} (j : J K B0 B σ H0 H ρ) (h : ρ.length = n) : J K B0 B σ H0 H (nosE n) := by
  unfold nosE
  have key : ∀ (i : Nat) s, (List.replicate n Sl.no)[i]? = some s → s = .no := fun i s e => by
    rw [List.getElem?_replicate] at e
    split at e
    · exact (Option.some.inj e).symm
    · cases e
  refine ⟨j.hp, by rw [j.len, h, List.length_replicate], fun i s ov h1 _ => ?_, fun i k s s' ov ov' a h1 _ _ _ w _ => ?_⟩
  · rw [key i s h1]; trivial
  · rw [key i s h1] at w; exact w.elim
/-- nothing more is told of the slots -/
theorem xg_no {X : Cx} {sts : List Stmt} {ρ ρ' : En} {Θ : Err} {n : Nat} (h : XG X sts ρ Θ ρ') (hl : ρ'.length = n := by first | rfl | simp) : XG X sts ρ Θ (nosE n) := fun B0 B σ H0 H Dn W tk j k =>
  h B0 B σ H0 H Dn W tk j fun v d σ' H0' H' t j' => k v d σ' H0' H' t (j'.nos hl)
end DL
theorem L2H.RoomH.units {k : Nat} {A : PySem.Around} (r : L2H.RoomH k A) : A.units + 64 < PySem.cLine := by have := r.un; omega
namespace DL
open PySem PySem.Spec PySem.Calls PyProof.Rows L2
section
variable {prog : Program} {w : World} {A : Around} {E : Value → Shared → Prop} {s : Shared} {K : PySem.W.Frag} {x D0 : Addr} {ox : Obj} {od : Option Obj}
theorem fnd_cls {C : Addr} {m : Str} {a g : Value} (c : (PySem.W.clsIn K C).isSome = true) (e1 : PySem.W.findIn K (.ref C) m = some (some a)) (e2 : PySem.W.specialIn K a "__get__" = some (some g)) (e3 : PySem.W.takesIn K a = some true) : PySem.W.findObj K C od m = some (.bind g a) := by
  obtain ⟨cd, z⟩ := Option.isSome_iff_exists.mp c
  simp [PySem.W.findObj, z, e1, e2, e3]
theorem cls_exF {Q : Option Value → Shared → Prop} (T : ExcC K D0) (Y : K.In s.heap) (I : PySem.W.InstAt s.heap x ox D0 od) (q : Q (some (.ref D0)) { s with toks := s.toks + 1 }) : wpAny (model prog w) A (getAttr? (.ref x) "__class__") Q E s := by
  have fo : PySem.W.findObj K D0 od "__class__" = some (.bind (.builtin "getset_descriptor.__get__") (.builtin "object.__class__")) := fnd_cls (by obtain ⟨cd, z, _⟩ := PySem.W.any_some T.hd; rw [z]; rfl) T.ha T.hn T.ht
  obtain ⟨hp, gg, dr, tk, os⟩ := s
  have M0 := I.type (M := model prog w)
  have M1 := PySem.W.looks_findIn (M := model prog w) Y T.hg
  have M2 := PySem.W.looks_findIn (M := model prog w) Y T.hk
  have M3 := PySem.W.looks_find (M := model prog w) Y I fo
  have isB : PySem.W.Looks (model prog w) hp (isInstance (.ref x) (.type "BaseException")) true := M0.andThen (PySem.W.looks_subIn Y T.hs)
  have n0 : (false && onTheHeap (Value.builtin "BaseException.__getattribute__")) = false := rfl
  have n1 : (onTheHeap (Value.ref D0) && Value.builtin "BaseException.__getattribute__" == Value.builtin "object.__getattribute__") = false := by rw [show (Value.builtin "BaseException.__getattribute__" == Value.builtin "object.__getattribute__") = false by decide +kernel]; rfl
  unfold getAttr?; unfold getAttrBy?; unfold getAttrBy
  refine wpAny_bind (wpAny_mkText (wpAny_bind (wpAny_attempt (wpAny_holding (wpAny_bind (M0.at (wpAny_bind (M1.at ?_))))))))
  show wpAny _ _ (if (onTheHeap (Value.ref D0) && Value.builtin "BaseException.__getattribute__" == Value.builtin "object.__getattribute__") = true then _ else _) _ _ _
  rw [n1, if_neg Bool.false_ne_true]
  unfold getAttrByItsOwn hookBefore
  refine wpAny_bind ?_
  rw [if_pos (show onTheHeap (Value.ref D0) = true from rfl)]
  refine M2.at ?_; refine wpAny_bind (wpAny_attempt (wpAny_holding ?_))
  unfold callGetattribute
  rw [n0, if_neg Bool.false_ne_true]
  unfold boundAndCalled
  rw [PySem.F.excAttr_ValueError.ga.bind (.ref x)]; refine wpAny_bind (wpAny_pure ?_)
  show wpAny _ _ (call (.builtin "BaseException.__getattribute__") [.ref x, .str "__class__" tk]) _ _ _
  refine wpAny_call (codeAny_call_builtin PySem.F.excAttr_ValueError.ga.plain PySem.F.entry_bexc_ga ?_); refine @PySem.W.check_slot (model prog w) _ _ ⟨hp, gg, dr, tk + 1, os⟩ "BaseException.__getattribute__" "BaseException" "__getattribute__" (.ref x) [.str "__class__" tk] [] _ (by decide +kernel) (by decide +kernel) isB (PySem.F.args_bexc_ga (.ref x) (.str "__class__" tk)) ?_
  unfold Builtin.«object.__getattribute__»
  refine wpAny_bind (wpAny_of_eq (a := ((Value.ref x : Value), [Value.str "__class__" tk])) (by first | rfl | (simp only [slotArgs]; rfl)) ?_); refine wpAny_bind (wpAny_pure (wpAny_bind (M0.at (wpAny_bind (M3.at ?_)))))
  show wpAny _ _ (holding [Value.builtin "object.__class__"] (call (.builtin "getset_descriptor.__get__") [.builtin "object.__class__", .ref x, .ref D0]) >>= ret) _ _ _
  refine wpAny_bind (wpAny_holding (wpAny_call (PySem.W.class_get (s := ⟨hp, gg, dr, tk + 1, os⟩) (ox := ox) (od := od) Y I T.hm ?_))); refine wpAny_pure ?_
  show wpAny _ _ (handedOut (.ref D0)) _ _ _
  rw [PySem.W.handedOut_of (v := .ref D0) rfl]; first | exact wpAny_pure (wpAny_pure q) | exact wpAny_pure q | exact wpAny_pure (wpAny_bind (wpAny_pure (wpAny_pure q)))
theorem kitx_exF (T : ExcC K D0) : PySem.W.KitX K (.ref x) (.ref D0) (fun h => ∃ od, PySem.W.InstAt h x ox D0 od) where
  ty := fun _ _ _ ⟨_, I⟩ => I.type
  it := fun _ _ Y _ => by
    obtain ⟨cd, hc, _⟩ := PySem.W.any_some T.hd
    unfold PySem.W.clsIn at hc; split at hc
    · rename_i c' d' cd' sl' ho; intro A' Q' E' s' k q; unfold isType loadHead; exact wpAny_bind (wpAny_loadPart (k _ _ (Y _ _ ho)) (wpAny_pure q))
    · cases hc
  ne := fun h tp dd its n sl Y htp => by
    obtain ⟨cd, hc, _⟩ := PySem.W.any_some T.hd
    refine Bool.eq_false_iff.mpr fun q => ?_
    obtain rfl : D0 = tp := Value.ref.inj (beq_iff_eq.mp q)
    unfold PySem.W.clsIn at hc; split at hc
    · rename_i c' d' cd' sl' ho; cases (Y _ _ ho).symm.trans htp
    · cases hc
  ca := fun Y ⟨_, I⟩ k => cls_exF T Y I k
/-- isinstance(e, c), e the exception that the suite holds, z where its fields are -/
def rIsF (K : PySem.W.Frag) (D0 a z : Addr) : List V → Hp → VK → Prop := fun xs H Q => ∃ (c : V) (cv : Value) (b : Bool) (fs : List (Str × V)), xs = [.ref a, c] ∧ (∀ u, RelV c u → u = cv) ∧ PySem.W.kitOne K (.ref D0) cv = some b ∧ H z = some (.xd fs) ∧ Q (.bl b) H
theorem call_isF {X : Cx} {a z : Addr} {oe : Obj} {pn : List (Addr × Obj)} (C : ExcC X.K D0) (hz : Zc (.ref D0) (some z) oe) (hf : ∃ vs, oe.data = .fields vs) : CallR (X.suite a ((a, oe) :: pn)) (.builtin "isinstance") (rIsF X.K D0 a z) := by
  intro pins s σ H xs us Q I r h
  obtain ⟨c, cv, b, fs, rfl, hcv, e, ea, q⟩ := h
  cases r with
  | cons rx rr =>
    cases rr with
    | cons rt rr =>
      cases rr; cases rx
      have ec := hcv _ rt
      subst ec
      obtain ⟨hget, _⟩ := I.pin (a, oe) (List.mem_append_left _ List.mem_cons_self)
      obtain ⟨vs, hv⟩ := hf
      have hx : ObjOk X.prog X.w H s.heap z (.xd fs) := I.hok z _ ea
      obtain ⟨mA, hns, hr⟩ := hx
      obtain ⟨od, ho, hl⟩ := lookIn_ns hns
      have J : ∃ od, PySem.W.InstAt s.heap a oe D0 od := ⟨some od, hget, hz.1, by unfold PySem.W.notCls; rw [hv] <;> rfl, by rw [hz.2]; exact ho⟩
      exact PySem.W.kia_one (kitx_exF C) I.kIn J e (fun z => nomatch z) fun tk => ⟨.bl b, H, I.kept (t' := tk) fun _ _ z => z, rfl, q⟩
structure Xe (K : PySem.W.Frag) (cn : Str) : Prop where
  ex : ∃ C, PySem.W.nsIn K mainGlobals cn = some (some (.ref C)) ∧ L2.ExcC K C
/-- isinstance(e, c), e a caught error with fields -/
theorem ed_isEF {X : Cx} {ρ : En} {cn : Str} {a x C : Addr} {oe : Obj} {pn : List (Addr × Obj)} {e : Expr} {c : Str} {b : Bool} {ns : List Str} {ds : List D} {p1 p2 pos : Pos} (xc : Xe X.K cn) (xi : Xi X.K X.mg cn c b) (hC : PySem.W.nsIn X.K mainGlobals cn = some (some (.ref C))) (hz : L2N.Zn (.ref C) (some x) oe) (hf : ∃ vs, oe.data = .fields vs) (hg : Gl X "isinstance") (hm : X.mg "isinstance" = none) (hgc : Gl X c)
    (he : ED (X.suite a ((a, oe) :: pn)) ρ e (.exc a x ns ds)) (hdc : (c == ("__debug__" : Str)) = false := by decide +kernel)
    (h1 : starEach [e, .Name c p2] X.env = (false, eval e X.env) :: starEach [.Name c p2] X.env := by rfl) (h2 : starEach [.Name c p2] X.env = (false, eval (.Name c p2) X.env) :: starEach [] X.env := by rfl) (h3 : (backTo pos (starEach [.Name c p2] X.env)).any (·.1) = false := by rfl) :
    ED (X.suite a ((a, oe) :: pn)) ρ (.Call (.Name "isinstance" p1) [e, .Name c p2] [] pos) (.bl b) := fun B0 B σ H0 H Q j k => by
  obtain ⟨C1, hC1, hx⟩ := xc.ex
  obtain ⟨C2, D2, hC2, hD, hk⟩ := xi.ex
  rw [hC] at hC1 hC2; cases hC1; cases hC2
  refine RE.of (pe_callB (call_isF hx hz.zc hf) hg hm bb_isinstance (pa_cons pe_star (pa_cons (pe_glob (v := .ref D2) hgc hD rfl hdc) pa_nil h2) h1) (by decide) (by decide) h1 h3) (he B0 B σ H0 H _ j fun v G0 G g r => ?_)
  obtain ⟨rfl, vs, h5, h6, h7⟩ := r
  exact ⟨.ref D2, .ref D2, b, _, rfl, fun u h => h, hk, g.sh _ _ h5, k _ G0 G g rfl⟩
end
end DL
namespace DL
open PySem PySem.Spec PyProof.Rows L2
local instance (priority := 2000) keyBEq6 : BEq Key := instBEqOfDecidableEq
def badNm : List Str := ["", "a234567890123", "Ab", "a_b", "9a", "a-", "aB1", "a."]
theorem badNm_no : ∀ x ∈ badNm, nameB x = false ∧ x.length ≤ 1000 := by
  have : badNm.all (fun x => !nameB x && decide (x.length ≤ 1000)) = true := by decide +kernel
  intro x hx
  have h := List.all_eq_true.mp this x hx
  simp only [Bool.and_eq_true, Bool.not_eq_true', decide_eq_true_eq] at h
  exact h
def badAt (d : Int) : Str := badNm.getD (d % 8).toNat ""
theorem badAt_no (d : Int) : nameB (badAt d) = false ∧ (badAt d).length ≤ 1000 := by
  refine badNm_no _ ?_
  unfold badAt
  have h1 := Int.emod_nonneg d (b := 8) (by decide)
  have h2 := Int.emod_lt_of_pos d (b := 8) (by decide)
  have hi : (d % 8).toNat < badNm.length := by show _ < 8; omega
  rw [List.getD_eq_getElem?_getD, List.getElem?_eq_getElem hi]
  exact List.getElem_mem hi
theorem at_getI {α : Type} {xs : List α} {f : α → D} {i : Int} {a : α} (h : 0 ≤ i ∧ i < xs.length) : atI (xs.map f) i = some (f (xs.getD i.toNat a)) := by
  have hi : i.toNat < xs.length := by omega
  refine atI_nn h.1 ?_
  rw [List.getElem?_map, List.getElem?_eq_getElem hi, List.getD_eq_getElem?_getD, List.getElem?_eq_getElem hi]
  rfl
end DL
namespace DL
open PySem PySem.Spec PyProof.Rows L2
def sRep (x : Str) (n : Nat) : Str := ⟨(List.replicate n x.cps).foldl (· ++ ·) #[]⟩
theorem rep_size (a : Array Nat) : ∀ (n : Nat) (acc : Array Nat), ((List.replicate n a).foldl (· ++ ·) acc).size = acc.size + n * a.size
  | 0, acc => by simp
  | n + 1, acc => by
    rw [List.replicate_succ, List.foldl_cons, rep_size a n, Array.size_append, Nat.succ_mul]
    omega
theorem sRep_len (x : Str) (n : Nat) : (sRep x n).length = n * x.length := by
  show ((List.replicate n x.cps).foldl (· ++ ·) #[]).size = _
  rw [rep_size]; simp; rfl
section
variable {X : Cx}
theorem op_mulS : OpR X (binaryOp .Mult) (fun x y H Q => ∃ (i : Str) (n : Nat), x = .str i ∧ y = .int (n : Int) ∧ 2 ≤ n ∧ n ≤ 1000 ∧ 0 < i.length ∧ i.length ≤ 1000 ∧ Q (.str (sRep i n)) H) := by
  intro pins s σ H x y v u Q I rx ry h
  obtain ⟨i, n, rfl, rfl, h2, hn, h0, hi, q⟩ := h
  obtain ⟨t, rfl⟩ := rx
  obtain ⟨t', rfl⟩ := ry
  have e1 : ((n : Int) == 1 || i.length == 0) = false := by
    rw [Bool.or_eq_false_iff]
    exact ⟨beq_eq_false_iff_ne.mpr (by omega), beq_eq_false_iff_ne.mpr (by omega)⟩
  have hm : i.length * n ≤ 1000 * 1000 := Nat.mul_le_mul hi hn
  refine PySem.P.mul_str ?_ (fun _ _ => ?_) (fun _ _ => ?_) ?_
  · rw [Bool.or_eq_false_iff]
    exact ⟨decide_eq_false (by omega), decide_eq_false (by omega)⟩
  · intro z
    have : (i.length : Int) ≤ (2 ^ 63 - 1) / (n : Int) := by
      rw [Int.le_ediv_iff_mul_le (by omega)]
      have : ((i.length * n : Nat) : Int) ≤ 1000000 := by omega
      rw [Int.natCast_mul] at this
      omega
    omega
  · unfold Builtin.Str.tooLong
    refine decide_eq_false ?_
    rw [sizeLine_eq, Int.toNat_natCast]
    omega
  · rw [if_neg (by omega), if_neg (by rw [e1]; decide), Int.toNat_natCast]
    exact ⟨by rw [show (⟨List.foldl (fun x1 x2 => x1 ++ x2) #[] (List.replicate n i.cps)⟩ : Str).length = n * i.length from sRep_len i n, sizeLine_eq, Nat.mul_comm]; omega, .str (sRep i n), H, I.tok _, ⟨_, rfl⟩, q⟩
theorem b2_mulS {i : Str} {n : Nat} (h2 : 2 ≤ n) (hn : n ≤ 1000) (h0 : 0 < i.length) (hi : i.length ≤ 1000) : B2 X .Mult (.str i) (.int (n : Int)) (.str (sRep i n)) := ⟨_, op_mulS, o2_keep _ (fun _ => rfl) fun _ _ _ _ _ _ r1 r2 q => ⟨i, n, r1, r2, h2, hn, h0, hi, q⟩⟩
end
end DL
namespace DL
open PySem PySem.Spec PyProof.Rows L2
section
variable {X : Cx}
/-- an expression as a statement -/
theorem ws_exprD {ρ : En} {e : Expr} {pos : Pos} {d : D} {Φ : Out → Prop} (h : ED X ρ e d) (hΦ : Φ (.nx ρ)) (hs : swapsWith e none pos.line X.env = pure false := by rfl) : WS X (.Expr e pos) ρ Φ := fun B0 B σ H0 H Dn j k =>
  ⟨_, ps_expr pe_star hs, h B0 B σ H0 H _ j fun v G0 G g r => k _ hΦ _ _ _ (j.grow g)⟩
end
end DL
namespace DL
open PySem PySem.Spec PyProof.Rows L2
def dgW (w : Str) : Str := if Txt.startswith w "-" = true then cutS w (some 1) none else w
def isIB (w : Str) : Bool := (Txt.isdigit (dgW w) && decide ((dgW w).length ≤ 30)) && (decide (w = ("0" : Str)) || !decide (sgn ((dgW w).cps.toList.getD 0 0) = ("0" : Str)))
theorem Rz.dgW {i : Int} (h : Rz i) : DL.dgW (stI i) = dgI i := by
  unfold DL.dgW
  rw [h.starts]
  by_cases hs : i < 0
  · rw [if_pos (decide_eq_true hs)]; exact cut_min hs
  · rw [if_neg (by simpa using hs)]; exact stI_pos (by omega)
theorem Rz.isI {i : Int} (h : Rz i) : isIB (stI i) = true := by
  unfold isIB
  rw [h.dgW, h.head, Bool.and_true, Bool.and_eq_true]
  exact ⟨h.rd.isdigit, decide_eq_true h.dlen⟩
theorem RdI.rz {i : Int} (h : RdI i) : Rz i := ⟨by have := h.b; omega⟩
inductive RdW : List Str → Option (List Int) → Prop where
  | ok (ns : List Int) (h : ∀ i ∈ ns, Rz i) : RdW (ns.map stI) (some ns)
  | bad (ws : List Str) (w : Str) (hw : w ∈ ws) (h : isIB w = false) : RdW ws none
def optT : Option (List Int) → D
  | some ns => .tup (ns.map .int)
  | none => .non
theorem RdW.all {ws : List Str} {o : Option (List Int)} (h : RdW ws o) : (ws.map isIB).all id = o.isSome := by
  cases h with
  | ok ns hz =>
    rw [List.all_map, List.all_map]
    exact List.all_eq_true.mpr fun i hi => (hz i hi).isI
  | bad ws w hw h =>
    cases e : (ws.map isIB).all id with
    | false => rfl
    | true =>
      have := List.all_eq_true.mp e (isIB w) (List.mem_map.mpr ⟨w, hw, rfl⟩)
      rw [h] at this; cases this
/-- words of which it is known -/
def Kn (w : Str) : Prop := (∃ i, Rz i ∧ w = stI i) ∨ isIB w = false
theorem rd_ex : ∀ {ws : List Str}, (∀ w ∈ ws, Kn w) → ∃ o, RdW ws o
  | [], _ => ⟨_, .ok [] (fun i h => by cases h)⟩
  | w :: ws, h => by
    rcases h w List.mem_cons_self with ⟨i, hi, rfl⟩ | hb
    · obtain ⟨o, ho⟩ := rd_ex (ws := ws) fun v hv => h v (List.mem_cons_of_mem _ hv)
      cases ho with
      | ok ns hz => exact ⟨_, .ok (i :: ns) (fun j hj => by rcases List.mem_cons.mp hj with rfl | z; exact hi; exact hz j z)⟩
      | bad ws w hw hb => exact ⟨_, .bad _ w (List.mem_cons_of_mem _ hw) hb⟩
    · exact ⟨_, .bad _ w List.mem_cons_self hb⟩
inductive NmBad (n : Int) (dn : List Nm) : List Str → Prop where
  | a (ws : List Str) (o : Option (List Int)) (r : RdW (ws.drop 2) o) (h : ws.length ≠ 3 ∨ ws.headD "" ≠ "name" ∨ o = none) : NmBad n dn ws
  | b (nm : Str) (i : Int) (hi : Rz i) (h : ¬ (lastN dn < i ∧ i < n) ∨ nameB nm = false ∨ nm ∈ dn.map (·.2)) : NmBad n dn ["name", nm, stI i]
inductive DvBad (n : Int) : List Str → Prop where
  | a (ws : List Str) (o : Option (List Int)) (r : RdW (ws.drop 2) o) (h : ws.length ≠ 7 ∨ ws.headD "" ≠ "device" ∨ o = none) : DvBad n ws
  | b (v : Dev) (hz : ∀ i ∈ ([v.g, v.a, v.b, v.w, v.l] : List Int), Rz i) (h : devB n v = false) : DvBad n (wV v)
inductive FsBad : List Str → Prop where
  | a (ws : List Str) (o : Option (List Int)) (r : RdW (ws.drop 1) o) (h : ws.length ≠ 2 ∨ ws.headD "" ≠ "nets" ∨ o = none) : FsBad ws
  | b (i : Int) (hi : Rz i) (h : ¬ (0 ≤ i ∧ i ≤ 200)) : FsBad (wN i)
structure XBad (n : Int) (N : List Nm) (V : List Dev) (ws : List Str) : Prop where
  nm : V = [] → NmBad n N ws
  dv : V.length < 200 → DvBad n ws
structure WsL (ws : List Str) : Prop where
  ne : ws ≠ []
  few : ws.length ≤ 9
  ok : ∀ w ∈ ws, WOk w
theorem WsL.len {ws : List Str} (h : WsL ws) : (lnW ws).length ≤ 400 := by
  have h0 := join_len " " ws
  have h1 := sumL_le (k := 41) (zs := ws) fun w hw => (h.ok w hw).n
  have := lens.2.2.2.1
  rw [this] at h0
  unfold lnW
  have : 41 * ws.length ≤ 41 * 9 := Nat.mul_le_mul_left _ h.few
  have := h.few
  omega
noncomputable def txW (W : List (List Str)) : Str := Str.join "\n" (W.map lnW)
theorem txW_split {W : List (List Str)} (hne : W ≠ []) (h : ∀ ws ∈ W, WsL ws) : Txt.split (txW W) "\n" = W.map lnW := by
  unfold txW
  rw [← TL.join_eq]
  refine TL.split_join sep_tl.2 (by decide +kernel) (by simpa using hne) fun p hp => ?_
  obtain ⟨ws, hw, rfl⟩ := List.mem_map.mp hp
  exact ln_free (h ws hw).ok
theorem txW_room {W : List (List Str)} (h : ∀ ws ∈ W, WsL ws) (hl : W.length ≤ 1500) : sumL (W.map lnW) + (W.map lnW).length * ("\n" : Str).length ≤ 700000 := by
  have h1 := sumL_le (k := 400) (zs := W.map lnW) fun z hz => by
    obtain ⟨ws, hw, rfl⟩ := List.mem_map.mp hz
    exact (h ws hw).len
  rw [List.length_map] at h1 ⊢
  have := lens.2.2.2.2.2
  rw [this]
  have : 400 * W.length ≤ 400 * 1500 := Nat.mul_le_mul_left _ hl
  omega
theorem txW_len {W : List (List Str)} (h : ∀ ws ∈ W, WsL ws) (hl : W.length ≤ 1500) : (txW W).length ≤ 700000 := Nat.le_trans (join_len _ _) (txW_room h hl)
theorem txW_enum (w0 : List Str) (W : List (List Str)) : enumK 2 (cutD ((w0 :: W).map fun ws : List Str => D.lst (ws.map D.str)) (some 1) none) = (List.range W.length).map fun (i : Nat) => D.tup [.int (((2 : Nat) : Int) + (i : Int)), .lst ((W.getD i []).map D.str)] := by
  have e0 : cutD ((w0 :: W).map fun ws : List Str => D.lst (ws.map D.str)) (some 1) none = W.map fun ws : List Str => D.lst (ws.map D.str) := by
    rw [cutDrop _ (by decide)]; rfl
  rw [e0]
  refine List.ext_getElem? fun i => ?_
  by_cases h : i < W.length
  · unfold enumK
    rw [List.getElem?_zipWith, List.length_map, List.getElem?_range h, List.getElem?_map, List.getElem?_map, List.getElem?_range h, List.getElem?_eq_getElem h]
    have e1 : W.getD i [] = W[i] := by rw [List.getD_eq_getElem?_getD, List.getElem?_eq_getElem h]; rfl
    show _ = some (D.tup [.int (((2 : Nat) : Int) + (i : Int)), .lst ((W.getD i []).map D.str)])
    rw [e1]; rfl
  · rw [List.getElem?_eq_none (by rw [enumK_len, List.length_map]; omega), List.getElem?_eq_none (by rw [List.length_map, List.length_range]; omega)]
/-- what stands behind the first line -/
def tlX (N : List Nm) (V : List Dev) (ww : List Str) (rr : List (List Str)) : List (List Str) := (N.map wQ ++ V.map wV) ++ ww :: rr
theorem tlX_len (N : List Nm) (V : List Dev) (ww : List Str) (rr : List (List Str)) : (tlX N V ww rr).length = N.length + V.length + 1 + rr.length := by unfold tlX; simp; omega
theorem tlX_at {N : List Nm} {V : List Dev} {ww : List Str} {rr : List (List Str)} {i : Nat} (h : i < N.length + V.length) : (tlX N V ww rr).getD i [] = tWd N V i := by
  have h2 := tWd_get (n := 0) (N := N) (V := V) h
  unfold wsC at h2
  rw [List.getElem?_cons_succ] at h2
  unfold tlX
  rw [List.getD_eq_getElem?_getD, List.getElem?_append_left (by simp; omega), h2]; rfl
theorem tlX_end (N : List Nm) (V : List Dev) (ww : List Str) (rr : List (List Str)) : (tlX N V ww rr).getD (N.length + V.length) [] = ww := by
  unfold tlX
  rw [List.getD_eq_getElem?_getD, List.getElem?_append_right (by simp)]
  simp
structure XTx (n : Int) (N : List Nm) (V : List Dev) (ww : List Str) (rr : List (List Str)) : Prop where
  t : TxOk n N V
  asc : N.Pairwise (fun p q => p.1 < q.1)
  bad : XBad n N V ww
  w : WsL ww
  r : ∀ ws ∈ rr, WsL ws
  l : rr.length ≤ 250
theorem TxOk.wl {n : Int} {N : List Nm} {V : List Dev} (t : TxOk n N V) {ws : List Str} (h : ws ∈ wsC n N V) : WsL ws := by
  obtain ⟨a, b, c⟩ := t.ws h
  exact ⟨a, by omega, c⟩
theorem XTx.all {n : Int} {N : List Nm} {V : List Dev} {ww : List Str} {rr : List (List Str)} (x : XTx n N V ww rr) : ∀ ws ∈ wN n :: tlX N V ww rr, WsL ws := fun ws h => by
  unfold tlX at h
  rcases List.mem_cons.mp h with rfl | h
  · exact x.t.wl (by unfold wsC; exact List.mem_cons_self)
  · rcases List.mem_append.mp h with h | h
    · exact x.t.wl (by unfold wsC; exact List.mem_cons_of_mem _ h)
    · rcases List.mem_cons.mp h with rfl | h
      · exact x.w
      · exact x.r ws h
theorem XTx.few {n : Int} {N : List Nm} {V : List Dev} {ww : List Str} {rr : List (List Str)} (x : XTx n N V ww rr) : (wN n :: tlX N V ww rr).length ≤ 1500 := by
  rw [List.length_cons, tlX_len]
  have := x.t.ok.nl; have := x.t.ok.vl; have := x.l
  omega
theorem join_app (s : Str) : ∀ {a b : List Str}, a ≠ [] → b ≠ [] → Str.join s (a ++ b) = Str.join s a ++ s ++ Str.join s b
  | [], _, h, _ => absurd rfl h
  | [x], y :: b, _, _ => rfl
  | [x], [], _, h => absurd rfl h
  | x :: y :: a, b, _, hb => by
    have ih := join_app s (a := y :: a) (b := b) (by simp) hb
    show x ++ s ++ Str.join s (y :: a ++ b) = x ++ s ++ Str.join s (y :: a) ++ s ++ Str.join s b
    rw [ih]
    simp only [app_assoc]
theorem ln_sfx {p : Str} {a : List Str} {w : Str} (ha : a ≠ []) (h : p = lnW a ++ (" " : Str)) : p ++ w = lnW (a ++ [w]) := by
  unfold lnW at h ⊢
  rw [h, join_app _ ha (by simp)]; rfl
theorem ln_inf {p q : Str} {a b : List Str} {w : Str} (ha : a ≠ []) (hb : b ≠ []) (h : p = lnW a ++ (" " : Str)) (h2 : q = (" " : Str) ++ lnW b) : p ++ w ++ q = lnW (a ++ [w] ++ b) := by
  rw [ln_sfx ha h, h2]
  unfold lnW
  rw [join_app _ (a := a ++ [w]) (by simp) hb]
  simp only [app_assoc]
def badIL : List Str := ["+5", "007", "-0", "1.5", "", "x", sRep "1" 31, "--2", "-", "5x", ("-" : Str) ++ sRep "9" 31, "00"]
def badIw (d : Int) : Str := badIL.getD (d % 12).toNat ""
def wokB (w : Str) : Bool := (!(TL.tl w).contains 32 && !(TL.tl w).contains 10) && decide (w.length ≤ 41)
theorem wok_of {w : Str} (h : wokB w = true) : WOk w := by
  unfold wokB at h
  rw [Bool.and_eq_true, Bool.and_eq_true, decide_eq_true_iff] at h
  refine ⟨fun m => ?_, fun m => ?_, h.2⟩
  · have h1 := h.1.1
    rw [List.contains_iff_mem.mpr m] at h1; cases h1
  · have h1 := h.1.2
    rw [List.contains_iff_mem.mpr m] at h1; cases h1
theorem badIL_no : badIL.all (fun w => !isIB w && wokB w) = true := by decide +kernel
theorem badI_no (d : Int) : isIB (badIw d) = false ∧ WOk (badIw d) := by
  have h : badIw d ∈ badIL := by
    unfold badIw
    have hl : (d % 12).toNat < badIL.length := by show _ < 12; omega
    rw [List.getD_eq_getElem?_getD, List.getElem?_eq_getElem hl]
    exact List.getElem_mem hl
  have := List.all_eq_true.mp badIL_no _ h
  rw [Bool.and_eq_true] at this
  exact ⟨by simpa using this.1, wok_of this.2⟩
theorem badAt_w (d : Int) : WOk (badAt d) := by
  have h : badAt d ∈ badNm := by
    unfold badAt
    have hl : (d % 8).toNat < badNm.length := by show _ < 8; omega
    rw [List.getD_eq_getElem?_getD, List.getElem?_eq_getElem hl]
    exact List.getElem_mem hl
  have h2 : badNm.all wokB = true := by decide +kernel
  exact wok_of (List.all_eq_true.mp h2 _ h)
def cfO (more n : Int) : Str := stI (n + more % 3)
def wrW (more n : Int) : List (List Str) :=
  [[""], ["nets", stI n], ["names", "a", "0"], ["name", "a"], ["name", "a", "0", "0"], ["name", "a", cfO more n], ["name", "a", "-1"], ["name", "a", badIw more],
   ["name", badAt more, stI (n - 1)], ["", "device", "n", "0", "0", "0", "1", "1"], ["device", "n", "0", "0", "0", "1", "1", ""], ["device", "", "n", "0", "0", "0", "1", "1"], ["Device", "n", "0", "0", "0", "1", "1"],
   ["device", "q", "0", "0", "0", "1", "1"], ["device", "n", "0", "0", "0", "1"], ["device", "n", "0", "0", "0", "1", "1", "1"], ["device", "n", cfO more n, "0", "0", "1", "1"], ["device", "n", "0", "0", cfO more n, "1", "1"],
   ["device", "n", "0", "-1", "0", "1", "1"], ["device", "n", "0", "0", "0", "0", "1"], ["device", "n", "0", "0", "0", "1", "0"], ["device", "n", "0", "0", "0", "1", "-5"], ["device", "n", "0", "0", "0", badIw more, "1"],
   ["device", "n", "0", "0", "0", "1", badIw more], ["device", "n", badIw more, "0", "0", "1", "1"], ["device"], ["name"]]
def wrS (more n : Int) : List Str :=
  ["", ("nets " : Str) ++ stI n, "names a 0", "name a", "name a 0 0", ("name a " : Str) ++ cfO more n, "name a -1", ("name a " : Str) ++ badIw more,
   ("name " : Str) ++ badAt more ++ (" " : Str) ++ stI (n - 1), " device n 0 0 0 1 1", "device n 0 0 0 1 1 ", "device  n 0 0 0 1 1", "Device n 0 0 0 1 1",
   "device q 0 0 0 1 1", "device n 0 0 0 1", "device n 0 0 0 1 1 1", ("device n " : Str) ++ cfO more n ++ (" 0 0 1 1" : Str), ("device n 0 0 " : Str) ++ cfO more n ++ (" 1 1" : Str),
   "device n 0 -1 0 1 1", "device n 0 0 0 0 1", "device n 0 0 0 1 0", "device n 0 0 0 1 -5", ("device n 0 0 0 " : Str) ++ badIw more ++ (" 1" : Str),
   ("device n 0 0 0 1 " : Str) ++ badIw more, ("device n " : Str) ++ badIw more ++ (" 0 0 1 1" : Str), "device", "name"]
theorem wr_str (more n : Int) : wrS more n = (wrW more n).map lnW := by
  have e1 : ("nets " : Str) ++ stI n = lnW ["nets", stI n] := ln_sfx (a := ["nets"]) (by simp) (by decide +kernel)
  have e2 : ∀ w : Str, ("name a " : Str) ++ w = lnW ["name", "a", w] := fun w => ln_sfx (a := ["name", "a"]) (by simp) (by decide +kernel)
  have e3 : ("name " : Str) ++ badAt more ++ (" " : Str) ++ stI (n - 1) = lnW ["name", badAt more, stI (n - 1)] := ln_Q (n - 1, badAt more)
  have e4 : ∀ w : Str, ("device n " : Str) ++ w ++ (" 0 0 1 1" : Str) = lnW ["device", "n", w, "0", "0", "1", "1"] := fun w => ln_inf (a := ["device", "n"]) (b := ["0", "0", "1", "1"]) (by simp) (by simp) (by decide +kernel) (by decide +kernel)
  have e5 : ∀ w : Str, ("device n 0 0 " : Str) ++ w ++ (" 1 1" : Str) = lnW ["device", "n", "0", "0", w, "1", "1"] := fun w => ln_inf (a := ["device", "n", "0", "0"]) (b := ["1", "1"]) (by simp) (by simp) (by decide +kernel) (by decide +kernel)
  have e6 : ∀ w : Str, ("device n 0 0 0 " : Str) ++ w ++ (" 1" : Str) = lnW ["device", "n", "0", "0", "0", w, "1"] := fun w => ln_inf (a := ["device", "n", "0", "0", "0"]) (b := ["1"]) (by simp) (by simp) (by decide +kernel) (by decide +kernel)
  have e7 : ∀ w : Str, ("device n 0 0 0 1 " : Str) ++ w = lnW ["device", "n", "0", "0", "0", "1", w] := fun w => ln_sfx (a := ["device", "n", "0", "0", "0", "1"]) (by simp) (by decide +kernel)
  unfold wrS wrW
  rw [e1, e2, e2, e3, e4, e4, e5, e6, e7]
  simp only [List.map_cons, List.map_nil]
  have f : ("" : Str) = lnW [""] ∧ ("names a 0" : Str) = lnW ["names", "a", "0"] ∧ ("name a" : Str) = lnW ["name", "a"] ∧ ("name a 0 0" : Str) = lnW ["name", "a", "0", "0"] ∧ ("name a -1" : Str) = lnW ["name", "a", "-1"] ∧ (" device n 0 0 0 1 1" : Str) = lnW ["", "device", "n", "0", "0", "0", "1", "1"] ∧ ("device n 0 0 0 1 1 " : Str) = lnW ["device", "n", "0", "0", "0", "1", "1", ""] ∧ ("device  n 0 0 0 1 1" : Str) = lnW ["device", "", "n", "0", "0", "0", "1", "1"] ∧ ("Device n 0 0 0 1 1" : Str) = lnW ["Device", "n", "0", "0", "0", "1", "1"] ∧ ("device q 0 0 0 1 1" : Str) = lnW ["device", "q", "0", "0", "0", "1", "1"] ∧ ("device n 0 0 0 1" : Str) = lnW ["device", "n", "0", "0", "0", "1"] ∧ ("device n 0 0 0 1 1 1" : Str) = lnW ["device", "n", "0", "0", "0", "1", "1", "1"] := by decide +kernel
  have g : ("device n 0 -1 0 1 1" : Str) = lnW ["device", "n", "0", "-1", "0", "1", "1"] ∧ ("device n 0 0 0 0 1" : Str) = lnW ["device", "n", "0", "0", "0", "0", "1"] ∧ ("device n 0 0 0 1 0" : Str) = lnW ["device", "n", "0", "0", "0", "1", "0"] ∧ ("device n 0 0 0 1 -5" : Str) = lnW ["device", "n", "0", "0", "0", "1", "-5"] ∧ ("device" : Str) = lnW ["device"] ∧ ("name" : Str) = lnW ["name"] := by decide +kernel
  obtain ⟨f0, f1, f2, f3, f4, f5, f6, f7, f8, f9, f10, f11⟩ := f
  obtain ⟨g0, g1, g2, g3, g4, g5⟩ := g
  rw [← f0, ← f1, ← f2, ← f3, ← f4, ← f5, ← f6, ← f7, ← f8, ← f9, ← f10, ← f11, ← g0, ← g1, ← g2, ← g3, ← g4, ← g5]
theorem stI_lit : stI 0 = ("0" : Str) ∧ stI 1 = ("1" : Str) ∧ stI (-1) = ("-1" : Str) ∧ stI (-5) = ("-5" : Str) := by decide +kernel
theorem kn_0 : Kn "0" := .inl ⟨0, ⟨by decide⟩, stI_lit.1.symm⟩
theorem kn_1 : Kn "1" := .inl ⟨1, ⟨by decide⟩, stI_lit.2.1.symm⟩
theorem kn_m1 : Kn "-1" := .inl ⟨-1, ⟨by decide⟩, stI_lit.2.2.1.symm⟩
theorem kn_m5 : Kn "-5" := .inl ⟨-5, ⟨by decide⟩, stI_lit.2.2.2.symm⟩
theorem kn_lit : isIB "" = false ∧ isIB "n" = false := by decide +kernel
theorem kn_e : Kn "" := .inr kn_lit.1
theorem kn_n : Kn "n" := .inr kn_lit.2
theorem kn_b (d : Int) : Kn (badIw d) := .inr (badI_no d).1
theorem kn_i {i : Int} (h : i.natAbs ≤ 1000) : Kn (stI i) := .inl ⟨i, ⟨by omega⟩, rfl⟩
theorem nm_kn {n : Int} {dn : List Nm} {ws : List Str} (k : ∀ w ∈ ws.drop 2, Kn w) (h : ws.length ≠ 3 ∨ ws.headD "" ≠ "name") : NmBad n dn ws := by
  obtain ⟨o, ho⟩ := rd_ex k
  exact .a ws o ho (h.elim .inl fun z => .inr (.inl z))
theorem dv_kn {n : Int} {ws : List Str} (k : ∀ w ∈ ws.drop 2, Kn w) (h : ws.length ≠ 7 ∨ ws.headD "" ≠ "device") : DvBad n ws := by
  obtain ⟨o, ho⟩ := rd_ex k
  exact .a ws o ho (h.elim .inl fun z => .inr (.inl z))
theorem nm_bi {n : Int} {dn : List Nm} {ws : List Str} {w : Str} (hw : w ∈ ws.drop 2) (h : isIB w = false) : NmBad n dn ws := .a ws none (.bad _ w hw h) (.inr (.inr rfl))
theorem dv_bi {n : Int} {ws : List Str} {w : Str} (hw : w ∈ ws.drop 2) (h : isIB w = false) : DvBad n ws := .a ws none (.bad _ w hw h) (.inr (.inr rfl))
theorem lastN_ge {dn : List Nm} (h : ∀ p ∈ dn, 0 ≤ p.1) : -1 ≤ lastN dn := by
  unfold lastN
  split
  · omega
  · next hn =>
    have hl : dn.length - 1 < dn.length := by omega
    have : dn[dn.length - 1]? = some (dn.getD (dn.length - 1) nm0) := by rw [List.getD_eq_getElem?_getD, List.getElem?_eq_getElem hl]; rfl
    have := h _ (List.mem_of_getElem? this)
    omega
theorem kz : ∀ w ∈ ([] : List Str), Kn w := fun _ h => by cases h
theorem kc {w : Str} {ws : List Str} (a : Kn w) (b : ∀ v ∈ ws, Kn v) : ∀ v ∈ w :: ws, Kn v := List.forall_mem_cons.mpr ⟨a, b⟩
theorem wz : ∀ w ∈ ([] : List Str), WOk w := fun _ h => by cases h
theorem wc {w : Str} {ws : List Str} (a : WOk w) (b : ∀ v ∈ ws, WOk v) : ∀ v ∈ w :: ws, WOk v := List.forall_mem_cons.mpr ⟨a, b⟩
theorem dv_of {n : Int} {ws : List Str} {v : Dev} (e : wV v = ws) (hz : ∀ i ∈ ([v.g, v.a, v.b, v.w, v.l] : List Int), Rz i) (h : devB n v = false) : DvBad n ws := e ▸ .b v hz h
theorem dvf {n : Int} {v : Dev} (h : (decide (v.k ∈ (["n", "p"] : List Str)) && ((decide (0 ≤ v.g) && decide (v.g < n)) && ((decide (0 ≤ v.a) && (decide (v.a ≤ v.b) && decide (v.b < n))) && (decide (1 ≤ v.w) && decide (1 ≤ v.l))))) = true → False) : devB n v = false := by
  cases e : devB n v with
  | false => rfl
  | true => exact (h e).elim
theorem cf_bad {more n : Int} {dn : List Nm} (hn : 1 ≤ n ∧ n ≤ 200) (hd : ∀ p ∈ dn, 0 ≤ p.1) : ∀ ws ∈ wrW more n, NmBad n dn ws ∧ DvBad n ws := fun ws h => by
  have hl := lastN_ge hd
  have hm : 0 ≤ more % 3 ∧ more % 3 < 3 := by omega
  unfold wrW at h
  simp only [List.mem_cons, List.not_mem_nil, or_false] at h
  rcases h with rfl | rfl | rfl | rfl | rfl | rfl | rfl | rfl | rfl | rfl | rfl | rfl | rfl | rfl | rfl | rfl | rfl | rfl | rfl | rfl | rfl | rfl | rfl | rfl | rfl | rfl | rfl
  · exact ⟨nm_kn kz (.inl (by simp)), dv_kn kz (.inl (by simp))⟩
  · exact ⟨nm_kn kz (.inl (by simp)), dv_kn kz (.inl (by simp))⟩
  · exact ⟨nm_kn (kc kn_0 kz) (.inr (by simp; decide +kernel)), dv_kn (kc kn_0 kz) (.inl (by simp))⟩
  · exact ⟨nm_kn kz (.inl (by simp)), dv_kn kz (.inl (by simp))⟩
  · exact ⟨nm_kn (kc kn_0 (kc kn_0 kz)) (.inl (by simp)), dv_kn (kc kn_0 (kc kn_0 kz)) (.inl (by simp))⟩
  · exact ⟨.b "a" (n + more % 3) ⟨by omega⟩ (.inl (by omega)), dv_kn (kc (kn_i (by omega)) kz) (.inl (by simp))⟩
  · exact ⟨(by rw [← stI_lit.2.2.1]; exact .b "a" (-1) ⟨by decide⟩ (.inl (by omega))), dv_kn (kc kn_m1 kz) (.inl (by simp))⟩
  · exact ⟨nm_bi (w := badIw more) (List.mem_singleton.mpr rfl) (badI_no more).1, dv_kn (kc (kn_b more) kz) (.inl (by simp))⟩
  · exact ⟨.b _ (n - 1) ⟨by omega⟩ (.inr (.inl (badAt_no more).1)), dv_kn (kc (kn_i (by omega)) kz) (.inl (by simp))⟩
  · exact ⟨nm_kn (kc kn_n (kc kn_0 (kc kn_0 (kc kn_0 (kc kn_1 (kc kn_1 kz)))))) (.inl (by simp)), dv_kn (kc kn_n (kc kn_0 (kc kn_0 (kc kn_0 (kc kn_1 (kc kn_1 kz)))))) (.inl (by simp))⟩
  · exact ⟨nm_kn (kc kn_0 (kc kn_0 (kc kn_0 (kc kn_1 (kc kn_1 (kc kn_e kz)))))) (.inl (by simp)), dv_kn (kc kn_0 (kc kn_0 (kc kn_0 (kc kn_1 (kc kn_1 (kc kn_e kz)))))) (.inl (by simp))⟩
  · exact ⟨nm_kn (kc kn_n (kc kn_0 (kc kn_0 (kc kn_0 (kc kn_1 (kc kn_1 kz)))))) (.inl (by simp)), dv_kn (kc kn_n (kc kn_0 (kc kn_0 (kc kn_0 (kc kn_1 (kc kn_1 kz)))))) (.inl (by simp))⟩
  · exact ⟨nm_kn (kc kn_0 (kc kn_0 (kc kn_0 (kc kn_1 (kc kn_1 kz))))) (.inl (by simp)), dv_kn (kc kn_0 (kc kn_0 (kc kn_0 (kc kn_1 (kc kn_1 kz))))) (.inr (by simp; decide +kernel))⟩
  · exact ⟨nm_kn (kc kn_0 (kc kn_0 (kc kn_0 (kc kn_1 (kc kn_1 kz))))) (.inl (by simp)), dv_of (v := ⟨"q", 0, 0, 0, 1, 1⟩) (by unfold wV; rw [stI_lit.1, stI_lit.2.1]) (fun i hi => by simp only [List.mem_cons, List.not_mem_nil, or_false] at hi; exact ⟨by have : i.natAbs ≤ 1000 := (by omega); omega⟩) (by unfold devB; rw [show decide (("q" : Str) ∈ (["n", "p"] : List Str)) = false by decide +kernel]; rfl)⟩
  · exact ⟨nm_kn (kc kn_0 (kc kn_0 (kc kn_0 (kc kn_1 kz)))) (.inl (by simp)), dv_kn (kc kn_0 (kc kn_0 (kc kn_0 (kc kn_1 kz)))) (.inl (by simp))⟩
  · exact ⟨nm_kn (kc kn_0 (kc kn_0 (kc kn_0 (kc kn_1 (kc kn_1 (kc kn_1 kz)))))) (.inl (by simp)), dv_kn (kc kn_0 (kc kn_0 (kc kn_0 (kc kn_1 (kc kn_1 (kc kn_1 kz)))))) (.inl (by simp))⟩
  · exact ⟨nm_kn (kc (kn_i (by omega)) (kc kn_0 (kc kn_0 (kc kn_1 (kc kn_1 kz))))) (.inl (by simp)), dv_of (v := ⟨"n", n + more % 3, 0, 0, 1, 1⟩) (by unfold wV; rw [stI_lit.1, stI_lit.2.1]; rfl) (fun i hi => by simp only [List.mem_cons, List.not_mem_nil, or_false] at hi; exact ⟨by have : i.natAbs ≤ 1000 := (by omega); omega⟩) (dvf fun e => by simp only [Bool.and_eq_true, decide_eq_true_eq] at e; omega)⟩
  · exact ⟨nm_kn (kc kn_0 (kc kn_0 (kc (kn_i (by omega)) (kc kn_1 (kc kn_1 kz))))) (.inl (by simp)), dv_of (v := ⟨"n", 0, 0, n + more % 3, 1, 1⟩) (by unfold wV; rw [stI_lit.1, stI_lit.2.1]; rfl) (fun i hi => by simp only [List.mem_cons, List.not_mem_nil, or_false] at hi; exact ⟨by have : i.natAbs ≤ 1000 := (by omega); omega⟩) (dvf fun e => by simp only [Bool.and_eq_true, decide_eq_true_eq] at e; omega)⟩
  · exact ⟨nm_kn (kc kn_0 (kc kn_m1 (kc kn_0 (kc kn_1 (kc kn_1 kz))))) (.inl (by simp)), dv_of (v := ⟨"n", 0, -1, 0, 1, 1⟩) (by unfold wV; rw [stI_lit.1, stI_lit.2.1, stI_lit.2.2.1]) (fun i hi => by simp only [List.mem_cons, List.not_mem_nil, or_false] at hi; exact ⟨by have : i.natAbs ≤ 1000 := (by omega); omega⟩) (dvf fun e => by simp only [Bool.and_eq_true, decide_eq_true_eq] at e; omega)⟩
  · exact ⟨nm_kn (kc kn_0 (kc kn_0 (kc kn_0 (kc kn_0 (kc kn_1 kz))))) (.inl (by simp)), dv_of (v := ⟨"n", 0, 0, 0, 0, 1⟩) (by unfold wV; rw [stI_lit.1, stI_lit.2.1]) (fun i hi => by simp only [List.mem_cons, List.not_mem_nil, or_false] at hi; exact ⟨by have : i.natAbs ≤ 1000 := (by omega); omega⟩) (dvf fun e => by simp only [Bool.and_eq_true, decide_eq_true_eq] at e; omega)⟩
  · exact ⟨nm_kn (kc kn_0 (kc kn_0 (kc kn_0 (kc kn_1 (kc kn_0 kz))))) (.inl (by simp)), dv_of (v := ⟨"n", 0, 0, 0, 1, 0⟩) (by unfold wV; rw [stI_lit.1, stI_lit.2.1]) (fun i hi => by simp only [List.mem_cons, List.not_mem_nil, or_false] at hi; exact ⟨by have : i.natAbs ≤ 1000 := (by omega); omega⟩) (dvf fun e => by simp only [Bool.and_eq_true, decide_eq_true_eq] at e; omega)⟩
  · exact ⟨nm_kn (kc kn_0 (kc kn_0 (kc kn_0 (kc kn_1 (kc kn_m5 kz))))) (.inl (by simp)), dv_of (v := ⟨"n", 0, 0, 0, 1, -5⟩) (by unfold wV; rw [stI_lit.1, stI_lit.2.1, stI_lit.2.2.2]) (fun i hi => by simp only [List.mem_cons, List.not_mem_nil, or_false] at hi; exact ⟨by have : i.natAbs ≤ 1000 := (by omega); omega⟩) (dvf fun e => by simp only [Bool.and_eq_true, decide_eq_true_eq] at e; omega)⟩
  · exact ⟨nm_kn (kc kn_0 (kc kn_0 (kc kn_0 (kc (kn_b more) (kc kn_1 kz))))) (.inl (by simp)), dv_bi (w := badIw more) (by simp) (badI_no more).1⟩
  · exact ⟨nm_kn (kc kn_0 (kc kn_0 (kc kn_0 (kc kn_1 (kc (kn_b more) kz))))) (.inl (by simp)), dv_bi (w := badIw more) (by simp) (badI_no more).1⟩
  · exact ⟨nm_kn (kc (kn_b more) (kc kn_0 (kc kn_0 (kc kn_1 (kc kn_1 kz))))) (.inl (by simp)), dv_bi (w := badIw more) (by simp) (badI_no more).1⟩
  · exact ⟨nm_kn kz (.inl (by simp)), dv_kn kz (.inl (by simp))⟩
  · exact ⟨nm_kn kz (.inl (by simp)), dv_kn kz (.inl (by simp))⟩
theorem wr_ln {more n : Int} (hn : 1 ≤ n ∧ n ≤ 200) : ∀ ws ∈ wrW more n, WsL ws := fun ws h => by
  have hm : 0 ≤ more % 3 ∧ more % 3 < 3 := by omega
  have w1 : WOk (stI n) := Rz.w ⟨by omega⟩
  have w2 : WOk (stI (n - 1)) := Rz.w ⟨by omega⟩
  have w3 : WOk (cfO more n) := Rz.w ⟨by omega⟩
  have w4 := (badI_no more).2
  have w5 := badAt_w more
  obtain ⟨l1, l2, l3, l4, l5⟩ : (WOk "" ∧ WOk "names" ∧ WOk "a") ∧ (WOk "0" ∧ WOk "1") ∧ (WOk "-1" ∧ WOk "-5") ∧ (WOk "Device" ∧ WOk "q") ∧ WOk "device" := ⟨⟨wok_of (by decide +kernel), wok_of (by decide +kernel), wok_of (by decide +kernel)⟩, ⟨wok_of (by decide +kernel), wok_of (by decide +kernel)⟩, ⟨wok_of (by decide +kernel), wok_of (by decide +kernel)⟩, ⟨wok_of (by decide +kernel), wok_of (by decide +kernel)⟩, wok_of (by decide +kernel)⟩
  obtain ⟨a1, a2, a3⟩ := l1
  obtain ⟨a4, a5⟩ := l2
  obtain ⟨a6, a7⟩ := l3
  obtain ⟨a8, a9⟩ := l4
  obtain ⟨b1, b2, b3, b4, b5⟩ := lit_w
  unfold wrW at h
  simp only [List.mem_cons, List.not_mem_nil, or_false] at h
  rcases h with rfl | rfl | rfl | rfl | rfl | rfl | rfl | rfl | rfl | rfl | rfl | rfl | rfl | rfl | rfl | rfl | rfl | rfl | rfl | rfl | rfl | rfl | rfl | rfl | rfl | rfl | rfl <;> refine ⟨by simp, by simp, ?_⟩ <;> (repeat' (first | exact wz | refine wc ?_ ?_)) <;> assumption
theorem dgW_if (w : Str) : (if Txt.startswith w "-" = true then D.str (cutS w (some 1) none) else D.str w) = D.str (dgW w) := by unfold dgW; split <;> rfl
theorem cutS_le (w : Str) (a b : Option Int) : (cutS w a b).length ≤ w.length := by
  have e : (cutS w a b).length = (cutS w a b).cps.toList.length := by rw [Array.length_toList]; rfl
  have e2 : w.length = w.cps.toList.length := by rw [Array.length_toList]; rfl
  rw [e, e2]
  unfold cutS
  show ((w.cps.toList.drop _).take _).length ≤ _
  rw [List.length_take, List.length_drop]
  omega
theorem dgW_len (w : Str) : (dgW w).length ≤ w.length := by
  unfold dgW; split
  · exact cutS_le _ _ _
  · exact Nat.le_refl _
theorem isI_if {w : Str} (h : (Txt.isdigit (dgW w) && decide ((dgW w).length ≤ 30)) = true) : isIB w = (decide (w = ("0" : Str)) || !decide (sgn ((dgW w).cps.toList.getD 0 0) = ("0" : Str))) := by unfold isIB; rw [h, Bool.true_and]
theorem isI_no {w : Str} (h : (Txt.isdigit (dgW w) && decide ((dgW w).length ≤ 30)) = false) : isIB w = false := by unfold isIB; rw [h, Bool.false_and]
theorem at_hd {w : Str} (h : Txt.isdigit w = true) : atI w.cps.toList 0 = some (w.cps.toList.getD 0 0) := by
  unfold Txt.isdigit at h
  rw [Bool.and_eq_true, decide_eq_true_iff] at h
  have hl : 0 < w.cps.toList.length := by rw [Array.length_toList]; exact h.1
  exact atI_nat (j := 0) (by rw [List.getD_eq_getElem?_getD, List.getElem?_eq_getElem hl]; rfl)
theorem RdW.some {ws : List Str} {ns : List Int} (h : RdW ws (some ns)) : ws = ns.map stI ∧ ∀ i ∈ ns, Rz i := by
  cases h with
  | ok ns hz => exact ⟨rfl, hz⟩
theorem hd_at {ws : List Str} (h : ws ≠ []) : atI (ws.map D.str) 0 = some (.str (ws.headD "")) := by
  cases ws with
  | nil => exact absurd rfl h
  | cons a l => exact atI_nat (j := 0) rfl
/-- lines that are wrong, and where -/
inductive PX : List (List Str) → Int → Prop where
  | first (w0 : List Str) (W : List (List Str)) (h : FsBad w0) (hw : ∀ ws ∈ w0 :: W, WsL ws) (hl : (w0 :: W).length ≤ 1500) : PX (w0 :: W) 1
  | at (n : Int) (N : List Nm) (V : List Dev) (ww : List Str) (rr : List (List Str)) (x : XTx n N V ww rr) : PX (wN n :: tlX N V ww rr) (((2 : Nat) : Int) + ((N.length + V.length : Nat) : Int))
theorem PX.ok {W : List (List Str)} {k : Int} (h : PX W k) : W ≠ [] ∧ (∀ ws ∈ W, WsL ws) ∧ W.length ≤ 1500 := by
  cases h with
  | first w0 W h hw hl => exact ⟨by simp, hw, hl⟩
  | «at» n N V ww rr x => exact ⟨by simp, x.all, x.few⟩
theorem PX.small {W : List (List Str)} {k : Int} (h : PX W k) : k.natAbs ≤ 10 ^ 31 := by
  have hk := h.ok.2.2
  cases h with
  | first w0 W h hw hl => decide
  | «at» n N V ww rr x =>
    rw [List.length_cons, tlX_len] at hk
    omega
theorem nilV {V : List Dev} {m : Nat} (h : (!(((V.take m).map Dev.e).isEmpty)) = false) (hm : V.length ≤ m) : V = [] := by
  rw [List.take_of_length_le hm] at h
  cases V with
  | nil => rfl
  | cons a l => cases h
theorem WsL.lens {ws : List Str} (h : WsL ws) : ∀ w ∈ ws, w.length ≤ 50 := fun w hw => by have := (h.ok w hw).n; omega
theorem no_fall {ws : List Str} {o : Option (List Int)} {k : Nat} {s : Str} (hb : ws.length ≠ k ∨ ws.headD "" ≠ s ∨ o = none) (h : (!decide ((ws.length : Int) = (k : Int)) || (!decide (ws.headD "" = s) || isNon (optT o))) = false) : False := by
  rw [Bool.or_eq_false_iff, Bool.or_eq_false_iff] at h
  obtain ⟨h1, h2, h3⟩ := h
  rcases hb with hb | hb | hb
  · exact hb (by have h1 : ws.length = (k : Int) := by simpa using h1
                 omega)
  · exact hb (by simpa using h2)
  · subst hb; cases h3
end DL
namespace DL
open PySem PySem.Spec PyProof.Rows L2
theorem CirOk.part {n : Int} {N M : List Nm} {V W : List Dev} (ok : CirOk n N V) (h : M.Sublist N) (h2 : W.Sublist V) : CirOk n M W :=
  ⟨ok.nn, fun q hq => ok.nm q (h.subset hq), ok.d1.sublist (h.map _), ok.d2.sublist (h.map _), Nat.le_trans h.length_le ok.nl, Nat.le_trans h2.length_le ok.vl, fun v hv => ok.dv v (h2.subset hv)⟩
theorem TxOk.part {n : Int} {N M : List Nm} {V W : List Dev} (t : TxOk n N V) (h : M.Sublist N) (h2 : W.Sublist V) : TxOk n M W := ⟨t.ok.part h h2, fun v hv => t.w v (h2.subset hv)⟩
theorem ws_take (n : Int) (M : List Nm) (V : List Dev) (j : Nat) : (wsC n M V).take (j + 1) = wsC n (M.take j) (V.take (j - M.length)) := by
  unfold wsC
  rw [List.take_succ_cons, List.take_append, List.length_map, List.map_take, List.map_take]
theorem px_cut {n : Int} {M : List Nm} {V : List Dev} (t : TxOk n M V) (asc : M.Pairwise (fun p q => p.1 < q.1)) {j : Nat} (hj : j ≤ M.length + V.length) (hf : M.length + V.length ≤ 200) {ww : List Str} (hw : WsL ww)
    (bad : ∀ dn : List Nm, (∀ p ∈ dn, 0 ≤ p.1) → NmBad n dn ww ∧ DvBad n ww) : PX ((wsC n M V).take (j + 1) ++ [ww] ++ (wsC n M V).drop (j + 1)) ((j : Int) + 2) := by
  have e1 : (wsC n M V).take (j + 1) ++ [ww] ++ (wsC n M V).drop (j + 1) = wN n :: tlX (M.take j) (V.take (j - M.length)) ww ((wsC n M V).drop (j + 1)) := by
    rw [ws_take]; unfold tlX wsC; simp
  have t2 := t.part (M.take_sublist j) (V.take_sublist (j - M.length))
  have b := bad (M.take j) (fun p hp => (t2.ok.nm p hp).1.1)
  have x : XTx n (M.take j) (V.take (j - M.length)) ww ((wsC n M V).drop (j + 1)) := ⟨t2, asc.sublist (M.take_sublist j), ⟨fun _ => b.1, fun _ => b.2⟩, hw, fun ws h => t.wl (List.mem_of_mem_drop h), by
    rw [List.length_drop]; unfold wsC; simp only [List.length_cons, List.length_append, List.length_map]; omega⟩
  have h := PX.at _ _ _ _ _ x
  rw [← e1] at h
  have e2 : (((2 : Nat) : Int) + (((M.take j).length + (V.take (j - M.length)).length : Nat) : Int)) = (j : Int) + 2 := by
    rw [List.length_take, List.length_take]; omega
  rwa [e2] at h
theorem px_end {n : Int} {M : List Nm} {V : List Dev} (t : TxOk n M V) (asc : M.Pairwise (fun p q => p.1 < q.1)) {ww : List Str} (hw : WsL ww) (bad : XBad n M V ww) : PX (wsC n M V ++ [ww]) ((M.length : Int) + (V.length : Int) + 2) := by
  have h := PX.at n M V ww [] ⟨t, asc, bad, hw, fun ws h => by simp at h, by simp⟩
  have e1 : wN n :: tlX M V ww [] = wsC n M V ++ [ww] := by unfold tlX wsC; simp
  rw [e1] at h
  have e2 : (((2 : Nat) : Int) + ((M.length + V.length : Nat) : Int)) = (M.length : Int) + (V.length : Int) + 2 := by omega
  rwa [e2] at h
theorem px_fst {n : Int} {M : List Nm} {V : List Dev} (t : TxOk n M V) (hf : M.length + V.length ≤ 200) {w0 : List Str} (hw : WsL w0) (h : FsBad w0) : PX ([w0] ++ (wsC n M V).drop 1) 1 :=
  .first w0 _ h (fun ws hm => by
    rcases List.mem_cons.mp hm with rfl | hm
    · exact hw
    · exact t.wl (List.mem_of_mem_drop hm)) (by
    show ((wsC n M V).drop 1).length + 1 ≤ 1500
    rw [List.length_drop]; unfold wsC; simp only [List.length_cons, List.length_append, List.length_map]; omega)
theorem wl_of {ws : List Str} (h1 : ws ≠ []) (h2 : ws.length ≤ 9) (h : ∀ w ∈ ws, WOk w) : WsL ws := ⟨h1, h2, h⟩
theorem emp_bad (n : Int) (dn : List Nm) : NmBad n dn [""] ∧ DvBad n [""] := ⟨nm_kn kz (.inl (by simp)), dv_kn kz (.inl (by simp))⟩
theorem emp_ln : WsL [""] := wl_of (by simp) (by simp) (wc (wok_of (by decide +kernel)) wz)
theorem fs_kn {ws : List Str} (k : ∀ w ∈ ws.drop 1, Kn w) (h : ws.length ≠ 2 ∨ ws.headD "" ≠ "nets") : FsBad ws := by
  obtain ⟨o, ho⟩ := rd_ex k
  exact .a ws o ho (h.elim .inl fun z => .inr (.inl z))
theorem emp_fs : FsBad [""] := fs_kn kz (.inl (by simp))
/-- the law's first lines -/
def fsW (d : Int) : List (List Str) := [["nets"], ["nets", "201"], ["nets", "-1"], ["nets", "5", "5"], ["net", "5"], ["", "nets", "5"], ["nets", badIw d], ["name", "a", "0"]]
def fsS (d : Int) : List Str := ["nets", "nets 201", "nets -1", "nets 5 5", "net 5", " nets 5", ("nets " : Str) ++ badIw d, "name a 0"]
theorem fs_str (d : Int) : fsS d = (fsW d).map lnW := by
  have e1 : ("nets " : Str) ++ badIw d = lnW ["nets", badIw d] := ln_sfx (a := ["nets"]) (by simp) (by decide +kernel)
  have f : ("nets" : Str) = lnW ["nets"] ∧ ("nets 201" : Str) = lnW ["nets", "201"] ∧ ("nets -1" : Str) = lnW ["nets", "-1"] ∧ ("nets 5 5" : Str) = lnW ["nets", "5", "5"] ∧ ("net 5" : Str) = lnW ["net", "5"] ∧ (" nets 5" : Str) = lnW ["", "nets", "5"] ∧ ("name a 0" : Str) = lnW ["name", "a", "0"] := by decide +kernel
  obtain ⟨f0, f1, f2, f3, f4, f5, f6⟩ := f
  unfold fsS fsW
  rw [e1]
  simp only [List.map_cons, List.map_nil]
  rw [← f0, ← f1, ← f2, ← f3, ← f4, ← f5, ← f6]
theorem lit5 : stI 5 = ("5" : Str) ∧ stI 201 = ("201" : Str) := by decide +kernel
theorem kn_5 : Kn "5" := .inl ⟨5, ⟨by decide⟩, lit5.1.symm⟩
theorem kn_x : Kn "nets" ∧ Kn "a" := ⟨.inr (by decide +kernel), .inr (by decide +kernel)⟩
theorem fs_bad (d : Int) : ∀ ws ∈ fsW d, FsBad ws ∧ WsL ws := fun ws h => by
  have w4 := (badI_no d).2
  obtain ⟨c1, c2, c3, c4⟩ : (WOk "" ∧ WOk "201" ∧ WOk "-1") ∧ (WOk "5" ∧ WOk "net") ∧ (WOk "a" ∧ WOk "0") ∧ True := ⟨⟨wok_of (by decide +kernel), wok_of (by decide +kernel), wok_of (by decide +kernel)⟩, ⟨wok_of (by decide +kernel), wok_of (by decide +kernel)⟩, ⟨wok_of (by decide +kernel), wok_of (by decide +kernel)⟩, trivial⟩
  obtain ⟨a1, a2, a3⟩ := c1
  obtain ⟨a4, a5⟩ := c2
  obtain ⟨a6, a7⟩ := c3
  obtain ⟨b1, b2, b3, b4, b5⟩ := lit_w
  have W : ∀ {ws : List Str}, ws ≠ [] → ws.length ≤ 9 → (∀ w ∈ ws, WOk w) → WsL ws := wl_of
  unfold fsW at h
  simp only [List.mem_cons, List.not_mem_nil, or_false] at h
  rcases h with rfl | rfl | rfl | rfl | rfl | rfl | rfl | rfl
  · exact ⟨fs_kn kz (.inl (by simp)), W (by simp) (by simp) (wc b1 wz)⟩
  · exact ⟨by have := FsBad.b 201 ⟨by decide⟩ (by decide); unfold wN at this; rwa [lit5.2] at this, W (by simp) (by simp) (wc b1 (wc a2 wz))⟩
  · exact ⟨by have := FsBad.b (-1) ⟨by decide⟩ (by decide); unfold wN at this; rwa [stI_lit.2.2.1] at this, W (by simp) (by simp) (wc b1 (wc a3 wz))⟩
  · exact ⟨fs_kn (kc kn_5 (kc kn_5 kz)) (.inl (by simp)), W (by simp) (by simp) (wc b1 (wc a4 (wc a4 wz)))⟩
  · exact ⟨fs_kn (kc kn_5 kz) (.inr (by simp; decide +kernel)), W (by simp) (by simp) (wc a5 (wc a4 wz))⟩
  · exact ⟨fs_kn (kc kn_x.1 (kc kn_5 kz)) (.inl (by simp)), W (by simp) (by simp) (wc a1 (wc b1 (wc a4 wz)))⟩
  · exact ⟨.a _ none (.bad _ (badIw d) (List.mem_singleton.mpr rfl) (badI_no d).1) (.inr (.inr rfl)), W (by simp) (by simp) (wc b1 (wc w4 wz))⟩
  · exact ⟨fs_kn (kc kn_x.2 (kc kn_0 kz)) (.inl (by simp)), W (by simp) (by simp) (wc b2 (wc a6 (wc a7 wz)))⟩
theorem zz_dv {n i : Int} (h : i.natAbs ≤ 1000) {nm : Str} : DvBad n ["name", nm, stI i] := dv_kn (kc (kn_i h) kz) (.inl (by simp))
theorem zz_ln {i : Int} (h : i.natAbs ≤ 1000) {nm : Str} (hn : WOk nm) : WsL ["name", nm, stI i] := wl_of (by simp) (by simp) (wc lit_w.2.1 (wc hn (wc (Rz.w ⟨by omega⟩) wz)))
theorem zz_w : WOk "zz" := wok_of (by decide +kernel)
def pDv : Dev := ⟨"p", 0, 0, 0, 1, 1⟩
def nDv : Dev := ⟨"n", 0, 0, 0, 1, 1⟩
theorem pDv_ok {n : Int} (h : 1 ≤ n) : DevOk n pDv := ⟨.inr rfl, by show (0 : Int) ≤ 0 ∧ 0 < n; omega, by show (0 : Int) ≤ 0 ∧ 0 ≤ 0 ∧ 0 < n; omega, by decide, by decide⟩
theorem nDv_ok {n : Int} (h : 1 ≤ n) : DevOk n nDv := ⟨.inl rfl, by show (0 : Int) ≤ 0 ∧ 0 < n; omega, by show (0 : Int) ≤ 0 ∧ 0 ≤ 0 ∧ 0 < n; omega, by decide, by decide⟩
theorem tx_p {n : Int} {M : List Nm} {V : List Dev} (t : TxOk n M V) (h : 1 ≤ n) : TxOk n M [pDv] := ⟨⟨t.ok.nn, t.ok.nm, t.ok.d1, t.ok.d2, t.ok.nl, by simp, fun v hv => by rw [List.mem_singleton.mp hv]; exact pDv_ok h⟩, fun v hv => by rw [List.mem_singleton.mp hv]; decide⟩
def manV : List Dev := List.replicate 200 nDv
theorem manV_len : manV.length = 200 := by unfold manV; rw [List.length_replicate]
theorem manV_tx : TxOk 1 [] manV := ⟨⟨by decide, fun q h => (by cases h), by simp, by simp, by simp, by rw [manV_len]; omega, fun v hv => by rw [(List.mem_replicate.mp hv).2]; exact nDv_ok (by decide)⟩, fun v hv => by rw [(List.mem_replicate.mp hv).2]; decide⟩
theorem p01_bad (n : Int) : DvBad n (wV ⟨"p", 0, 1, 0, 1, 1⟩) := .b _ (fun i hi => by simp only [List.mem_cons, List.not_mem_nil, or_false] at hi; exact ⟨by have : i.natAbs ≤ 1000 := (by omega); omega⟩) (dvf fun e => by simp only [Bool.and_eq_true, decide_eq_true_eq] at e; omega)
theorem wV_ln {v : Dev} (h : ∀ i ∈ ([v.g, v.a, v.b, v.w, v.l] : List Int), Rz i) (hk : WOk v.k) : WsL (wV v) := by
  refine wl_of (by simp [wV]) (by simp [wV]) ?_
  unfold wV
  exact wc lit_w.2.2.1 (wc hk (wc (h _ (by simp)).w (wc (h _ (by simp)).w (wc (h _ (by simp)).w (wc (h _ (by simp)).w (wc (h _ (by simp)).w wz))))))
theorem man_px : PX (wsC 1 [] manV ++ [wV nDv]) 202 := by
  have h := px_end manV_tx List.Pairwise.nil (ww := wV nDv) (wV_ln (fun i hi => by simp only [nDv, List.mem_cons, List.not_mem_nil, or_false] at hi; exact ⟨by have : i.natAbs ≤ 1000 := (by omega); omega⟩) lit_w.2.2.2.1) ⟨fun z => by rw [show manV = nDv :: List.replicate 199 nDv from rfl] at z; exact absurd z (by simp), fun z => by rw [manV_len] at z; omega⟩
  rw [manV_len] at h
  exact h
inductive LX : List Str → Int → Prop where
  | ok (n : Int) (N : List Nm) (V : List Dev) (t : TxOk n N V) (asc : N.Pairwise (fun p q => p.1 < q.1)) : LX ((wsC n N V).map lnW) 0
  | bad (W : List (List Str)) (k : Int) (h : PX W k) : LX (W.map lnW) k
theorem last_get {N : List Nm} (h : N.length ≠ 0) : lastN N = (N.getD (N.length - 1) nm0).1 := by unfold lastN; rw [if_neg h]
theorem add_ok {a b : Str} (h : a.length ≤ 100) (h2 : b.length ≤ 41) : a.length + b.length ≤ sizeLine := by rw [sizeLine_eq]; omega
theorem add_ok2 {a b c : Str} (h : a.length ≤ 100) (h2 : b.length ≤ 41) (h3 : c.length ≤ 100) : (a ++ b).length + c.length ≤ sizeLine := by rw [app_len, sizeLine_eq]; omega
theorem add_ok3 {a b c e : Str} (h : a.length ≤ 100) (h2 : b.length ≤ 41) (h3 : c.length ≤ 100) (h4 : e.length ≤ 41) : (a ++ b ++ c).length + e.length ≤ sizeLine := by rw [app_len, app_len, sizeLine_eq]; omega
theorem cf_get (m n d : Int) : ((wrW m n).map lnW).getD (d % 27).toNat "" = lnW ((wrW m n).getD (d % 27).toNat []) := by
  have hl : (d % 27).toNat < (wrW m n).length := by show _ < 27; omega
  rw [List.getD_eq_getElem?_getD, List.getElem?_map, List.getD_eq_getElem?_getD, List.getElem?_eq_getElem hl]; rfl
theorem wr_mem (m n d : Int) : (wrW m n).getD (d % 27).toNat [] ∈ wrW m n := by
  have hl : (d % 27).toNat < (wrW m n).length := by show _ < 27; omega
  rw [List.getD_eq_getElem?_getD, List.getElem?_eq_getElem hl]; exact List.getElem_mem hl
theorem cut_tk7 (l : List D) {k : Int} (h : 0 ≤ k) : cutD l none (some k) = l.take k.toNat := by
  unfold cutD
  have h1 : HT.sIx l.length 0 none = 0 := rfl
  have h2 : HT.sIx l.length l.length (some k) = min k.toNat l.length := by
    unfold HT.sIx
    simp only
    split <;> omega
  rw [h1, h2]
  rw [List.drop_zero, Nat.sub_zero]
  rcases Nat.le_total k.toNat l.length with q | q
  · rw [Nat.min_eq_left q]
  · rw [Nat.min_eq_right q, List.take_of_length_le q, List.take_of_length_le (Nat.le_refl _)]
theorem srtN_self {N : List Nm} (h : N.Pairwise (fun p q => p.1 < q.1)) : srtN N = N := by
  have nd : (N.map (·.1)).Nodup := List.pairwise_map.mpr (h.imp fun h => Int.ne_of_lt h)
  exact (srtN_perm N).eq_of_pairwise (le := fun p q => p.1 < q.1) (fun a b _ _ h1 h2 => by omega) (srtN_lt nd) h
theorem cN_asc (c nets most : Int) : (cN c nets most).Pairwise (fun p q => p.1 < q.1) := qN_lt _ _ _
theorem wsC_len7 (n : Int) (N : List Nm) (V : List Dev) : (wsC n N V).length = N.length + V.length + 1 := by unfold wsC; simp only [List.length_cons, List.length_append, List.length_map]
theorem ls_app (W U : List (List Str)) : ((W ++ U).map lnW).map D.str = (W.map lnW).map D.str ++ (U.map lnW).map D.str := by rw [List.map_append, List.map_append]
theorem ls_take (W : List (List Str)) {k : Int} (h : 0 ≤ k) : cutD ((W.map lnW).map D.str) none (some k) = ((W.take k.toNat).map lnW).map D.str := by rw [cut_tk7 _ h, List.map_take, List.map_take]
theorem ls_drop (W : List (List Str)) {k : Int} (h : 0 ≤ k) : cutD ((W.map lnW).map D.str) (some k) none = ((W.drop k.toNat).map lnW).map D.str := by rw [cutDrop _ h, List.map_drop, List.map_drop]
theorem ws_named (n : Int) (N : List Nm) (V : List Dev) : (wsC n N V).take (N.length + 1) = wsC n N [] := by
  rw [ws_take, List.take_length, Nat.sub_self, List.take_zero]
theorem ws_more (n : Int) (N : List Nm) : wsC n N [pDv] = wsC n N [] ++ [wV pDv] := by unfold wsC; simp
theorem ln_p : lnW (wV pDv) = ("device p 0 0 0 1 1" : Str) ∧ lnW (wV nDv) = ("device n 0 0 0 1 1" : Str) ∧ lnW (wV ⟨"p", 0, 1, 0, 1, 1⟩) = ("device p 0 1 0 1 1" : Str) ∧ lnW (wN 1) = ("nets 1" : Str) := by decide +kernel
theorem man_D : [D.str "nets 1"] ++ (List.replicate (201 : Int).toNat [D.str "device n 0 0 0 1 1"]).flatten = ((wsC 1 [] manV ++ [wV nDv]).map lnW).map D.str := by
  have e : wsC 1 [] manV ++ [wV nDv] = wN 1 :: List.replicate 201 (wV nDv) := by
    unfold wsC manV
    rw [List.map_nil, List.nil_append, List.map_replicate, List.cons_append, ← List.replicate_succ']
  rw [e, List.map_cons, List.map_cons, List.map_replicate, List.map_replicate, ln_p.2.1, ln_p.2.2.2]
  have f : ∀ m : Nat, (List.replicate m [D.str "device n 0 0 0 1 1"]).flatten = List.replicate m (D.str "device n 0 0 0 1 1") := fun m => by
    induction m with
    | zero => rfl
    | succ m ih => rw [List.replicate_succ, List.flatten_cons, ih, List.replicate_succ]; rfl
  rw [f]; rfl
theorem man_take : (wsC 1 [] manV ++ [wV nDv]).take 201 = wsC 1 [] manV := by
  have h : (wsC 1 [] manV).length = 201 := by rw [wsC_len7, manV_len]; rfl
  rw [List.take_append_of_le_length (by omega), List.take_of_length_le (by omega)]
/-- names that come again -/
def agW (N : List Nm) (n : Int) : List (List Str) := [["name", "zz", stI (lastN N)], ["name", "zz", stI 0], ["name", (N.getD 0 nm0).2, stI (n - 1)]]
theorem ag_bad {n : Int} {N : List Nm} {V : List Dev} (t : TxOk n N V) (h0 : N.length ≠ 0) : ∀ ws ∈ agW N n, XBad n N [] ws ∧ WsL ws := fun ws h => by
  have hl : N.length - 1 < N.length := by omega
  have g : ∀ i, i < N.length → N.getD i nm0 ∈ N := fun i hi => by rw [List.getD_eq_getElem?_getD, List.getElem?_eq_getElem hi]; exact List.getElem_mem hi
  have q1 := (t.ok.nm _ (g _ hl)).1
  have q2 := t.ok.nm _ (g 0 (by omega))
  have hn := t.ok.nn
  rw [← last_get h0] at q1
  unfold agW at h
  simp only [List.mem_cons, List.not_mem_nil, or_false] at h
  rcases h with rfl | rfl | rfl
  · exact ⟨⟨fun _ => .b _ _ ⟨by omega⟩ (.inl (by omega)), fun _ => zz_dv (by omega)⟩, zz_ln (by omega) zz_w⟩
  · exact ⟨⟨fun _ => .b _ _ ⟨by decide⟩ (.inl (by omega)), fun _ => zz_dv (by decide)⟩, zz_ln (by decide) zz_w⟩
  · exact ⟨⟨fun _ => .b _ _ ⟨by omega⟩ (.inr (.inr (List.mem_map.mpr ⟨_, g 0 (by omega), rfl⟩))), fun _ => zz_dv (by omega)⟩, zz_ln (by omega) (name_w q2.2)⟩
theorem p_ne : ([pDv] : List Dev) ≠ [] := by simp
theorem mo_bad1 {n : Int} {N : List Nm} (hn : 1 ≤ n ∧ n ≤ 200) : XBad n N [pDv] ["name", "zz", stI (n - 1)] ∧ WsL ["name", "zz", stI (n - 1)] := ⟨⟨fun z => absurd z p_ne, fun _ => zz_dv (by omega)⟩, zz_ln (by omega) zz_w⟩
theorem mo_bad2 {n : Int} {N : List Nm} : XBad n N [pDv] (wV ⟨"p", 0, 1, 0, 1, 1⟩) ∧ WsL (wV ⟨"p", 0, 1, 0, 1, 1⟩) := ⟨⟨fun z => absurd z p_ne, fun _ => p01_bad n⟩, wV_ln (fun i hi => by simp only [List.mem_cons, List.not_mem_nil, or_false] at hi; exact ⟨by have : i.natAbs ≤ 1000 := (by omega); omega⟩) lit_w.2.2.2.2⟩
theorem zz_ln2 (i : Int) : ("name zz " : Str) ++ stI i = lnW ["name", "zz", stI i] := ln_sfx (a := ["name", "zz"]) (by simp) (by decide +kernel)
theorem ag_ln3 (q : Str) (i : Int) : ("name " : Str) ++ q ++ (" " : Str) ++ stI i = lnW ["name", q, stI i] := ln_Q (i, q)
theorem zz0 : ("name zz 0" : Str) = lnW ["name", "zz", stI 0] := by decide +kernel
theorem drn7 (c : Int) : TxOk (qCnt c 9 6 + 1) (cN c 9 6) (cV c 9 6) := ⟨(qcir_ok (by decide) (by decide)).up (by have := (qCnt_lo (c := c) (nets := 9) (most := 6) (by decide)).2; omega), fun v hv => by have := drawn_small v hv; omega⟩
end DL
namespace DL
open PySem PySem.Spec PyProof.Rows L2
local macro_rules | `(tactic| walk_at "side") => `(tactic| first | assumption | decide | omega | (simp only [List.length_map, List.length_append, List.length_cons, List.length_nil, sizeLine_eq] at *; omega))
local macro_rules | `(tactic| walk_at "len") => `(tactic| first | decide | (simp [sizeLine_eq]; done) | (simp [sizeLine_eq]; omega))
local macro_rules | `(tactic| walk_at "b2") => `(tactic| first
  | exact b2_add | exact b2_sub | exact b2_mod (by decide) | exact b2_fdiv ⟨by decide, by decide⟩
  | exact b2_mul (by first | exact Or.inr ⟨by decide, by decide⟩ | exact Or.inl ⟨by decide, by decide⟩ | exact Or.inr ⟨by omega, by omega⟩ | exact Or.inl ⟨by omega, by omega⟩)
  | exact b2_mod (by first | assumption | omega) | exact b2_fdiv ⟨by omega, by omega⟩ | exact b2_addS (by walk_at "side"))
local macro_rules | `(tactic| walk_at "c2") => `(tactic| first
  | exact c2_lt | exact c2_le | exact c2_gt | exact c2_ge | exact c2_eqI | exact c2_neI | exact c2_isN | exact c2_notN | exact c2_isB | exact c2_notB | exact c2_eqB | exact c2_neB | exact c2_eqS | exact c2_neS | exact c2_leS | exact c2_inInts | exact c2_eq2 (by assumption) | exact c2_eq4 (by assumption) | exact c2_ne2 (by assumption) | exact c2_ne4 (by assumption) | exact c2_eqInts (by assumption) | exact c2_neInts (by assumption) | exact c2_eqIntsL (by assumption) | exact c2_inSq (by assumption) | exact c2_notInSq (by assumption) | exact c2_eqBx (by assumption) | exact c2_neBx (by assumption))
local macro_rules | `(tactic| walk_at "ix") => `(tactic| first | exact IX.t0 | exact IX.t1 | exact IX.t2 | exact IX.t3 | exact IX.t4 | exact IX.t5 | exact IX.l0 | exact IX.l1 | exact IX.l2 | exact IX.l (at_draws (by first | decide | omega) (by first | decide | omega)) | exact ix_sel3 ⟨by omega, by omega⟩ | exact IX.l rfl)
local macro_rules | `(tactic| walk_at "bc") => `(tactic| first | exact bc_int | exact bc_lenL | exact bc_lenT | exact bc_tupL | exact bc_tupT | exact bc_min2 rfl | exact bc_max2 rfl)
local macro_rules | `(tactic| walk_at "bo") => `(tactic| first | exact bo_listL | exact bo_listT)
local macro_rules | `(tactic| walk_at "mk") => `(tactic| first | exact .mk _ | exact .mk _ _ | exact .mk _ _ _ | exact .mk _ _ _ _ | exact .mk _ _ _ _ _ | exact .mk _ _ _ _ _ _ | exact .mk _ _ _ _ _ _ _ | exact .mk _ _ _ _ _ _ _ _ | exact .mk)
local macro_rules | `(tactic| walk_at "kd") => `(tactic| first | exact kd_int | exact kd_bl | exact kd_str | (refine' kd_tup ?l ?c ?e ?z ?r; (case l => k_is); (case c => rfl); (case e => rfl); (case z => decide); (case r => walk_at "kds")))
local macro_rules | `(tactic| walk_at "kds") => `(tactic| first | exact kds_nil | (refine' kds_cons ?a ?b; (case a => walk_at "kd"); (case b => walk_at "kds")))
local macro_rules | `(tactic| walk_at "en") => `(tactic| simp only [en, enI, enL, List.map_cons, List.map_nil, List.length_cons, List.length_nil, List.cons_append, List.nil_append, List.replicate, Nat.add_one_sub_one, Nat.reduceAdd, Nat.reduceSub])
local macro_rules | `(tactic| walk_at "env") => `(tactic| simp only [upds, List.foldl_cons, List.foldl_nil, OC.d, List.set_cons_zero, List.set_cons_succ])
inductive R_E_InvalidText : List D → List D → Prop where
  | mk (i : Int) (h : Sm i) : R_E_InvalidText [.int i] [.int i]
inductive R_is_name : List D → D → Prop where
  | mk (x : Str) (h : x.length ≤ sizeLine) : R_is_name [.str x] (.bl (nameB x))
inductive R_is_net_count : List D → D → Prop where
  | mk (n : Int) : R_is_net_count [.int n] (.bl (decide (0 ≤ n) && decide (n ≤ 200)))
inductive R_is_device : List D → D → Prop where
  | mk (v : Dev) (n : Int) (b : Bool) (h : b = devB n v) : R_is_device [v.e, .int n] (.bl b)
inductive R_are_names : List D → D → Prop where
  | mk (d : D) (N : List Nm) (n : Int) (hd : SeqD d (N.map nmE)) (h : N.length ≤ 1000) (hz : ∀ q ∈ N, q.2.length ≤ 1000) : R_are_names [d, .int n] (.bl (namesB N n))
inductive R_Circuit_init : List D → List Str → List D → Prop where
  | mk (n : Int) (N : List Nm) (V : List Dev) (dN dV : D) (hN : SeqD dN (N.map nmE)) (hV : SeqD dV (V.map Dev.e)) (ok : CirOk n N V) : R_Circuit_init [.int n, dN, dV] ["net_count", "names", "devices", "_name_table"] (cirV n N V)
inductive R_Circuit_eq : List D → D → Prop where
  | mk (n m : Int) (N M : List Nm) (V W : List Dev) (ok : CirOk n N V) (ok2 : CirOk m M W) : R_Circuit_eq [cirD n N V, cirD m M W] (.bl (cirEq n N V m M W))
inductive R_is_integer : List D → D → Prop where
  | gen (w : Str) (h : w.length ≤ 50) : R_is_integer [.str w] (.bl (isIB w))
theorem R_is_integer.mk (i : Int) (h : RdI i) : R_is_integer [.str (stI i)] (.bl true) := by
  have := R_is_integer.gen (stI i) (by have := h.len; omega)
  rwa [h.rz.isI] at this
inductive R_read_integers : List D → D → Prop where
  | gen (ws : List Str) (o : Option (List Int)) (r : RdW ws o) (hs : ∀ w ∈ ws, w.length ≤ 50) (hl : ws.length ≤ 100) : R_read_integers [.lst (ws.map .str)] (optT o)
theorem R_read_integers.mk (ns : List Int) (h : ∀ i ∈ ns, RdI i) (hl : ns.length ≤ 100) : R_read_integers [.lst (ns.map fun i => .str (stI i))] (.tup (ns.map .int)) := by
  have := R_read_integers.gen (ns.map stI) (some ns) (.ok ns fun i hi => (h i hi).rz) (fun w hw => by obtain ⟨i, hi, rfl⟩ := List.mem_map.mp hw; have := (h i hi).len; omega) (by rw [List.length_map]; exact hl)
  rwa [List.map_map] at this
inductive R_net_count_in_x : List D → D → Prop where
  | mk (ws : List Str) (h : FsBad ws) (hw : WsL ws) : R_net_count_in_x [.lst (ws.map .str)] .non
inductive R_net_count_in_v : List D → D → Prop where
  | mk (n : Int) (h : 0 ≤ n ∧ n ≤ 200) : R_net_count_in_v [.lst ((wN n).map .str)] (.int n)
inductive R_name_in_x : List D → D → Prop where
  | mk (n : Int) (dn : List Nm) (ws : List Str) (h : NmBad n dn ws) (hw : WsL ws) (hl : dn.length ≤ 1000) : R_name_in_x [.lst (ws.map .str), .int n, .lst (dn.map nmE)] .non
inductive R_name_in_q : List D → D → Prop where
  | mk (n : Int) (dn : List Nm) (q : Nm) (hlt : ∀ p ∈ dn, p.1 < q.1) (hq : 0 ≤ q.1 ∧ q.1 < n) (hn : n ≤ 200) (hnm : nameB q.2 = true) (hnew : q.2 ∉ dn.map (·.2)) (hl : dn.length ≤ 1000) : R_name_in_q [.lst ((wQ q).map .str), .int n, .lst (dn.map nmE)] (nmE q)
inductive R_name_in_v : List D → D → Prop where
  | mk (n : Int) (dn : List Nm) (v : Dev) (h : DvT v) : R_name_in_v [.lst ((wV v).map .str), .int n, .lst (dn.map nmE)] .non
inductive R_device_in_x : List D → D → Prop where
  | mk (n : Int) (ws : List Str) (h : DvBad n ws) (hw : WsL ws) : R_device_in_x [.lst (ws.map .str), .int n] .non
inductive R_device_in_q : List D → D → Prop where
  | mk (n : Int) (q : Nm) (h : RdI q.1) : R_device_in_q [.lst ((wQ q).map .str), .int n] .non
inductive R_device_in_v : List D → D → Prop where
  | mk (n : Int) (v : Dev) (h : DvT v) (hd : devB n v = true) : R_device_in_v [.lst ((wV v).map .str), .int n] v.e
inductive R_parse_circuit : List D → D → Prop where
  | mk (n : Int) (N : List Nm) (V : List Dev) (t : TxOk n N V) (asc : N.Pairwise (fun p q => p.1 < q.1)) : R_parse_circuit [.str (txC n N V)] (cirD n N V)
inductive R_law_cell : List D → D → Prop where
  | mk (ns : List Int) (k : Int) (h : 0 ≤ k) : R_law_cell [.lst (ns.map .int), .int k] (.int (cellAt ns k))
inductive R_law_draws : List D → D → Prop where
  | mk (c n : Int) (h : 0 ≤ n) (h2 : n ≤ 1000) : R_law_draws [.int c, .int n] (.lst ((draws c n).map .int))
inductive R_law_name : List D → D → Prop where
  | mk (d : Int) (h : 0 ≤ d) : R_law_name [.int d] (.str (nmOf d))
inductive R_law_qbad_integer : List D → D → Prop where
  | mk (d : Int) (h : 0 ≤ d) : R_law_qbad_integer [.int d] (.str (badIw d))
inductive R_law_qbad_name : List D → D → Prop where
  | mk (d : Int) (h : 0 ≤ d) : R_law_qbad_name [.int d] (.str (badAt d))
inductive R_law_qcircuit : List D → D → Prop where
  | mk (c nets most : Int) (h : 0 ≤ nets ∧ nets ≤ 60) (h2 : 0 ≤ most ∧ most ≤ 60) : R_law_qcircuit [.int c, .int nets, .int most] (.tup [.int (qCnt c nets most), .lst ((cN c nets most).map nmE), .lst ((cV c nets most).map Dev.e)])
inductive R_law_qcircuit_lines : List D → D → Prop where
  | mk (n : Int) (N : List Nm) (V : List Dev) (t : TxOk n (srtN N) V) : R_law_qcircuit_lines [.int n, .lst (N.map nmE), .lst (V.map Dev.e)] (.lst ((lsC n (srtN N) V).map .str))
inductive R_law_line : List D → D → Prop where
  | mk (L : List Str) (k : Int) (h : LX L k) : R_law_line [.lst (L.map .str)] (.int k)
inductive R_law_wrong_line : List D → D → Prop where
  | mk (d m n : Int) (hd : 0 ≤ d) (hm : 0 ≤ m) (hn : 1 ≤ n ∧ n ≤ 200) : R_law_wrong_line [.int d, .int m, .int n] (.str (lnW ((wrW m n).getD (d % 27).toNat [])))
abbrev R_law := RLaw
inductive RX_parse_circuit : List D → Err → Prop where
  | mk (W : List (List Str)) (k : Int) (h : PX W k) : RX_parse_circuit [.str (txW W)] (errF "InvalidText" ["line"] [.int k])
def top (i : Nat) : Stmt := PySem.Challenge.pw_reticle_k70_faults_of_written_circuits.main.body.getD i (.Pass ⟨0, 0, 0, 0⟩)
structure Bt (mg : Str → Option Value) : Prop where
  «all» : mg "all" = none
  «dict» : mg "dict" = none
  «enumerate» : mg "enumerate" = none
  «int» : mg "int" = none
  «isinstance» : mg "isinstance" = none
  «len» : mg "len" = none
  «range» : mg "range" = none
  «set» : mg "set" = none
  «sorted» : mg "sorted" = none
  «str» : mg "str" = none
  «tuple» : mg "tuple" = none
structure Kt (K : PySem.W.Frag) (mg : Str → Option Value) : Prop where
  «KINDS» : Cst K mg "KINDS" (.tup [.str "n", .str "p"])
  «MOST_CHARACTERS» : Cst K mg "MOST_CHARACTERS" (.int 12)
  «MOST_DEVICES» : Cst K mg "MOST_DEVICES" (.int 200)
  «MOST_DIGITS» : Cst K mg "MOST_DIGITS" (.int 30)
  «MOST_NETS» : Cst K mg "MOST_NETS" (.int 200)
structure Lt (K : PySem.W.Frag) (mg : Str → Option Value) : Prop where
  «Circuit» : Kl K mg "Circuit" ["net_count", "names", "devices", "_name_table"]
structure Xt (K : PySem.W.Frag) (mg : Str → Option Value) : Prop where
  «InvalidText» : Xe K "InvalidText"
  «m1» : Xm K mg "InvalidText" "ReticleError"
  «i1» : Xi K mg "InvalidText" "InvalidText" true
  «f1» : Xf K "InvalidText" ["line"]
section
variable {P : Program} {w : World} {K : PySem.W.Frag} {mg : Str → Option Value} {base : Heap}
abbrev s_E_InvalidText : Stmt := inClass (top 3) 0
def F_E_InvalidText (cc c : Addr) : NdefX.NF := ⟨"__init__", "InvalidText.__init__", defArgs s_E_InvalidText, defBody s_E_InvalidText, defScope s_E_InvalidText, [("__class__", cc)], c⟩
theorem okE_InvalidText {C fI cc c : Addr} (S : SupK P K mg C fI cc c (F_E_InvalidText cc c)) (T : L2.OexC K C) (hf1 : PySem.W.findIn K (.ref C) "line" = some none) {dV kV doc pm ct oc : Value} {ann od : Option Addr} {osl : Array (Option Value)}
    (lk : K.lookup fI = some ⟨oc, od, .func (PySem.W.fnX "__init__" "InvalidText.__init__" (defArgs s_E_InvalidText) (defBody s_E_InvalidText) (defScope s_E_InvalidText) [("__class__", cc)] dV kV doc pm ann (.ref c) ct), osl⟩) :
    FnOk P w K mg base CX0 1 fI (PySem.W.fnX "__init__" "InvalidText.__init__" (defArgs s_E_InvalidText) (defBody s_E_InvalidText) (defScope s_E_InvalidText) [("__class__", cc)] dV kV doc pm ann (.ref c) ct) ["self", "line"] (spE K C ["line"] R_E_InvalidText) := by
  refine fn_okE1 (F := F_E_InvalidText cc c) (N := ["self", "line", "__class__"]) (ps := ["self", "line"]) (k := 0) S T (NdefX.nscope_by (show NdefX.nscB ["self", "line", "__class__"] ["self", "line"] ["__class__"] (defScope s_E_InvalidText) = true by decide +kernel)) rfl (by simp) (fun ds es h => by cases h; rfl) rfl hf1 rfl rfl rfl (fun _ => rfl) (fun _ => rfl) (fun _ => rfl) (fun _ => rfl) (fun _ => rfl) (fun a ds es hR A outer s H E hr => ?_) lk
  rcases hR with ⟨i, hi⟩
  walk_at "en"
  exact ⟨_, _, (ed_fs (fs_cons ed_str (fs_cons (by first | exact fm_s (ed_var 1 rfl) (by rw [sizeLine_eq]; decide +kernel) | exact fm_i (ed_var 1 rfl) (by exact hi.log)) (fs_cons ed_str fs_nil))) (by simp only [sumL_cons, sumL_nil]; have e1 : ("line " : Str).length = 5 := (by decide +kernel); have e2 : (" is wrong" : Str).length = 9 := (by decide +kernel); have e3 := hi.len; unfold stI at e3; rw [e1, e2, sizeLine_eq]; omega)), (ed_var 1 rfl), (ed_var 0 rfl), rfl⟩
abbrev s_is_name : Stmt := top 7
theorem sc_is_name : FnScope ["name", "sign"] ["name"] (defScope s_is_name) := ⟨rfl, rfl, rfl, by decide +kernel, rfl, by decide +kernel, by decide +kernel⟩
theorem ok_is_name {f : Addr} {fd : FuncData} (F : Fun K "is_name" "is_name" s_is_name f fd) (B : Bt mg) (KC : Kt K mg) (KL : Lt K mg) (XF : Xt K mg)  :
    FnOk P w K mg base CX0 1 f fd ["name"] (spR K R_is_name) := by
  refine fn_ok (k := 0) F sc_is_name (fun ds d h => by cases h; rfl) fun ds d hR cdv A outer s H E hr => ?_
  have nd := sc_is_name.nd
  have hu := hr.units
  rcases hR with ⟨x, hx⟩
  walk_at "en"
  refine ws_cons (ws_if (td_tw (tw_or (td_not (td_chain ed_int (ed_callB (id := "len") (by rfl) B.«len» bb_len (ad_cons (ed_var 0 rfl) ad_nil) (bc_lenS hx)) (ed_const KC.«MOST_CHARACTERS» (by rfl)) (by walk_at "c2") (by walk_at "c2"))) (fun hb2 => (tw_or1 (td_not (TD.eq (td_chain ed_str (ed_ixS (c := x.cps.toList.getD 0 0) (ed_var 0 rfl) ed_int hx (at_first hb2)) ed_str (by walk_at "c2") (by walk_at "c2")) (chA _))))))) (fun hc1 => ?_) (fun hc1 => ?_))
  · skip
    have hf := name_no hc1
    refine ws_cons (ws_ret (ED.eq ed_bl ?_) (Or.inl rfl))
    rw [hf]
  · skip
    have hf := name_yes hc1
    refine ws_nil ?_
    refine ws_cons (ws_ret (ED.eq (ed_callB (id := "all") (by rfl) B.«all» bb_all (ad_cons (ed_lst (eo_map2 [("sign", 1)] (x.cps.toList) (fun c => D.str (sgn c)) (chB) (D.bl) rfl nd (blkOk_by (N := ["name", "sign"]) (sc := defScope s_is_name) (by decide +kernel)) (id_str (ed_var 0 rfl)) (rfl) (fun c hxm => ⟨_, by rfl, fun _ _ _ _ _ => ⟨(dg_name 1 nd), tds_nil, (ed_or (ED.eq (ed_chain ed_str (ed_var 1 rfl) ed_str (by walk_at "c2") (by walk_at "c2")) (show _ = (D.bl (loB c)) from by exact congrArg D.bl (chA c))) (fun hb4 => (ed_one (ED.eq (ed_chain ed_str (ed_var 1 rfl) ed_str (by walk_at "c2") (by walk_at "c2")) (show _ = (D.bl (decide (48 ≤ c) && decide (c ≤ 57))) from by exact congrArg D.bl (ch0 c))))))⟩⟩) (by rw [Array.length_toList]; exact hx))) ad_nil) (bc_all rfl)) ?_) (Or.inl rfl))
    rw [hf]
abbrev s_is_net_count : Stmt := top 12
theorem sc_is_net_count : FnScope ["net_count"] ["net_count"] (defScope s_is_net_count) := ⟨rfl, rfl, rfl, by decide +kernel, rfl, by decide +kernel, by decide +kernel⟩
theorem ok_is_net_count {f : Addr} {fd : FuncData} (F : Fun K "is_net_count" "is_net_count" s_is_net_count f fd) (B : Bt mg) (KC : Kt K mg) (KL : Lt K mg) (XF : Xt K mg)  :
    FnOk P w K mg base CX0 1 f fd ["net_count"] (spR K R_is_net_count) := by
  refine fn_ok (k := 0) F sc_is_net_count (fun ds d h => by cases h; rfl) fun ds d hR cdv A outer s H E hr => ?_
  have nd := sc_is_net_count.nd
  have hu := hr.units
  cases hR
  walk_at "en"
  refine ws_cons (ws_ret (ED.eq (ed_chain ed_int (ed_var 0 rfl) (ed_const KC.«MOST_NETS» (by rfl)) (by walk_at "c2") (by walk_at "c2")) ?_) (Or.inl rfl))
  rfl
abbrev s_is_device : Stmt := top 13
theorem sc_is_device : FnScope ["device", "net_count", "kind", "gate", "end", "other", "width", "length"] ["device", "net_count"] (defScope s_is_device) := ⟨rfl, rfl, rfl, by decide +kernel, rfl, by decide +kernel, by decide +kernel⟩
theorem ok_is_device {f : Addr} {fd : FuncData} (F : Fun K "is_device" "is_device" s_is_device f fd) (B : Bt mg) (KC : Kt K mg) (KL : Lt K mg) (XF : Xt K mg)  :
    FnOk P w K mg base CX0 1 f fd ["device", "net_count"] (spR K R_is_device) := by
  refine fn_ok (k := 0) F sc_is_device (fun ds d h => by cases h; rfl) fun ds d hR cdv A outer s H E hr => ?_
  have nd := sc_is_device.nd
  have hu := hr.units
  rcases hR with ⟨v, n, b, hb⟩
  walk_at "en"
  refine ws_cons (ws_unpack (ed_var 0 rfl) (dg_tup rfl (dgs_cons (dg_name 2 nd) (dgs_cons (dg_name 3 nd) (dgs_cons (dg_name 4 nd) (dgs_cons (dg_name 5 nd) (dgs_cons (dg_name 6 nd) (dgs_cons (dg_name 7 nd) dgs_nil))))))) ?_)
  walk_at "env"
  refine ws_cons (ws_ret (ED.eq (ed_and (ed_cmp (ed_var 2 rfl) (ed_const KC.«KINDS» (by rfl)) (c2_inStr (ys := ["n", "p"]) (.tup _)) (by rfl)) (fun hb4 => (ed_and (ed_chain ed_int (ed_var 3 rfl) (ed_var 1 rfl) (by walk_at "c2") (by walk_at "c2")) (fun hb3 => (ed_and (ed_chain3 ed_int (ed_var 4 rfl) (ed_var 5 rfl) (ed_var 1 rfl) (by walk_at "c2") (by walk_at "c2") (by walk_at "c2")) (fun hb2 => (ed_and (ed_cmp (ed_var 6 rfl) ed_int (by walk_at "c2")) (fun hb1 => (ed_one (ed_cmp (ed_var 7 rfl) ed_int (by walk_at "c2"))))))))))) ?_) (Or.inl rfl))
  subst hb; rfl
abbrev s_are_names : Stmt := top 14
theorem sc_are_names : FnScope ["names", "net_count", "net", "name", "_"] ["names", "net_count"] (defScope s_are_names) := ⟨rfl, rfl, rfl, by decide +kernel, rfl, by decide +kernel, by decide +kernel⟩
theorem ok_are_names {f : Addr} {fd : FuncData} (F : Fun K "are_names" "are_names" s_are_names f fd) (B : Bt mg) (KC : Kt K mg) (KL : Lt K mg) (XF : Xt K mg) (G_is_name : Fn P w K mg base "is_name" 1 R_is_name) :
    FnOk P w K mg base CX0 2 f fd ["names", "net_count"] (spR K R_are_names) := by
  refine fn_ok (k := 1) F sc_are_names (fun ds d h => by cases h; rfl) fun ds d hR cdv A outer s H E hr => ?_
  have nd := sc_are_names.nd
  have hu := hr.units
  rcases hR with ⟨d, N, n, hd, hN, hz⟩
  walk_at "en"
  refine ws_cons (ws_ret (ED.eq (ed_and (ed_callB (id := "all") (by rfl) B.«all» bb_all (ad_cons (ed_lst (eo_map2 [("net", 2), ("name", 3)] (N) (nmE) (fun q : Nm => (decide (0 ≤ q.1) && decide (q.1 < n)) && nameB q.2) (D.bl) rfl nd (blkOk_by (N := ["names", "net_count", "net", "name", "_"]) (sc := defScope s_are_names) (by decide +kernel)) (id_seq hd (ed_var 0 rfl)) (rfl) (fun q hxm => ⟨_, by rfl, fun _ _ _ _ _ => ⟨(dg_tup rfl (dgs_cons (dg_name 2 nd) (dgs_cons (dg_name 3 nd) dgs_nil))), tds_nil, (ed_and (ed_chain ed_int (ed_var 2 rfl) (ed_var 1 rfl) (by walk_at "c2") (by walk_at "c2")) (fun hb5 => (ed_one (ed_call G_is_name (hr.mono (by decide)) (by rfl) (ad_cons (ed_var 3 rfl) ad_nil) (by exact .mk _ (by have := hz q hxm; rw [sizeLine_eq]; omega))))))⟩⟩) (by rw [sizeLine_eq]; omega))) ad_nil) (bc_all rfl)) (fun hb6 => (ed_and (ed_cmp (ed_lenSetK (by rfl) (by rfl) B.«len» (by rfl) B.«set» (ed_lst (eo_map2 [("net", 2), ("_", 4)] (N) (nmE) (fun q : Nm => (Sum.inl q.1 : Key)) (kD) rfl nd (blkOk_by (N := ["names", "net_count", "net", "name", "_"]) (sc := defScope s_are_names) (by decide +kernel)) (id_seq hd (ed_var 0 rfl)) (rfl) (fun q hxm => ⟨_, by rfl, fun _ _ _ _ _ => ⟨(dg_tup rfl (dgs_cons (dg_name 2 nd) (dgs_cons (dg_name 4 nd) dgs_nil))), tds_nil, (ed_var 2 rfl)⟩⟩) (by rw [sizeLine_eq]; omega))) (by rw [List.length_map]; omega)) (ed_callB (id := "len") (by rfl) B.«len» bb_len (ad_cons (ed_var 0 rfl) ad_nil) ((bc_lenSeq hd))) (by walk_at "c2")) (fun hb3 => (ed_one (ed_cmp (ed_lenSetK (by rfl) (by rfl) B.«len» (by rfl) B.«set» (ed_lst (eo_map2 [("_", 4), ("name", 3)] (N) (nmE) (fun q : Nm => (Sum.inr q.2 : Key)) (kD) rfl nd (blkOk_by (N := ["names", "net_count", "net", "name", "_"]) (sc := defScope s_are_names) (by decide +kernel)) (id_seq hd (ed_var 0 rfl)) (rfl) (fun q hxm => ⟨_, by rfl, fun _ _ _ _ _ => ⟨(dg_tup rfl (dgs_cons (dg_name 4 nd) (dgs_cons (dg_name 3 nd) dgs_nil))), tds_nil, (ed_var 3 rfl)⟩⟩) (by rw [sizeLine_eq]; omega))) (by rw [List.length_map]; omega)) (ed_callB (id := "len") (by rfl) B.«len» bb_len (ad_cons (ed_var 0 rfl) ad_nil) ((bc_lenSeq hd))) (by walk_at "c2"))))))) ?_) (Or.inl rfl))
  rw [namesB_eq]
abbrev s_Circuit_init : Stmt := inClass (top 15) 0
theorem sc_Circuit_init : FnScope ["self", "net_count", "names", "devices", "device"] ["self", "net_count", "names", "devices"] (defScope s_Circuit_init) := ⟨rfl, rfl, rfl, by decide +kernel, rfl, by decide +kernel, by decide +kernel⟩
theorem ok_Circuit_init {f : Addr} {fd : FuncData} (F : Fun K "__init__" "Circuit.__init__" s_Circuit_init f fd) (B : Bt mg) (KC : Kt K mg) (KL : Lt K mg) (XF : Xt K mg) (G_are_names : Fn P w K mg base "are_names" 2 R_are_names) (G_is_device : Fn P w K mg base "is_device" 1 R_is_device) (G_is_net_count : Fn P w K mg base "is_net_count" 1 R_is_net_count) :
    FnOk P w K mg base CX0 3 f fd ["self", "net_count", "names", "devices"] (spI K "Circuit" R_Circuit_init) := by
  refine fn_okI (k := 2) F sc_Circuit_init (fun ds ns es h => by cases h; rfl) fun a0 ds ns es hR cdv A outer s H E hr => ?_
  have nd := sc_Circuit_init.nd
  have hu := hr.units
  rcases hR with ⟨n, N, V, dN, dV, hN, hV, ok⟩
  walk_at "en"
  refine ws_cons (ws_if (td_not (td_truth (ed_call G_is_net_count (hr.mono (by decide)) (by rfl) (ad_cons (ed_var 1 rfl) ad_nil) (by walk_at "mk")) rfl)) (fun hc1 => ?_) (fun hc1 => ?_))
  · skip
    exfalso; have := ok.nn; simp at hc1; omega
  · skip
    clear hc1
    refine ws_nil ?_
    refine ws_cons (ws_if (td_not (td_truth (ed_call G_are_names (hr.mono (by decide)) (by rfl) (ad_cons (ed_var 2 rfl) (ad_cons (ed_var 1 rfl) ad_nil)) (by exact .mk _ _ _ hN ok.nl ok.short)) rfl)) (fun hc2 => ?_) (fun hc2 => ?_))
    · skip
      exfalso; rw [ok.namesB] at hc2; cases hc2
    · skip
      clear hc2
      refine ws_nil ?_
      refine ws_cons (ws_if (td_cmp (ed_callB (id := "len") (by rfl) B.«len» bb_len (ad_cons (ed_var 3 rfl) ad_nil) ((bc_lenSeq hV))) (ed_const KC.«MOST_DEVICES» (by rfl)) (by walk_at "c2")) (fun hc3 => ?_) (fun hc3 => ?_))
      · skip
        exfalso; have := ok.vl; simp at hc3; omega
      · skip
        clear hc3
        refine ws_nil ?_
        refine ws_cons (ws_if (td_not (td_truth (ed_callB (id := "all") (by rfl) B.«all» bb_all (ad_cons (ed_lst (eo_map2 [("device", 4)] (V) (Dev.e) (fun _ : Dev => true) (D.bl) rfl nd (blkOk_by (N := ["self", "net_count", "names", "devices", "device"]) (sc := defScope s_Circuit_init) (by decide +kernel)) (id_seq hV (ed_var 3 rfl)) (rfl) (fun v hxm => ⟨_, by rfl, fun _ _ _ _ _ => ⟨(dg_name 4 nd), tds_nil, (ed_call G_is_device (hr.mono (by decide)) (by rfl) (ad_cons (ed_var 4 rfl) (ad_cons (ed_var 1 rfl) ad_nil)) (by exact .mk _ _ _ (dev_ok (ok.dv v hxm)).symm))⟩⟩) (by have := ok.vl; rw [sizeLine_eq]; omega))) ad_nil) (bc_all rfl)) rfl)) (fun hc4 => ?_) (fun hc4 => ?_))
        · skip
          exfalso; simp at hc4
        · skip
          clear hc4
          refine ws_nil ?_
          refine ws_cons (ws_setF 0 KL.«Circuit» rfl (ed_var 1 rfl) ?_)
          simp only [List.cons_append, List.nil_append]
          walk_at "env"
          refine ws_cons (ws_setF 0 KL.«Circuit» rfl (ed_tupX (by rfl) B.«tuple» (ed_lst (eo_sortedD (by rfl) B.«sorted» hN (ed_var 2 rfl) (nm_sort hu)))) ?_)
          simp only [List.cons_append, List.nil_append]
          walk_at "env"
          refine ws_cons (ws_setF 0 KL.«Circuit» rfl (ed_callT (T := "tuple") (by rfl) B.«tuple» bb_tuple (ad_cons (ed_var 3 rfl) ad_nil) ((bc_tupSeq hV))) ?_)
          simp only [List.cons_append, List.nil_append]
          walk_at "env"
          refine ws_cons (ws_setF 0 KL.«Circuit» rfl (ed_own (eo_dictP (kds := (srtN N).map nmK) (by rfl) (by rfl) B.«dict» ok.keys (ED.eq (ed_fldO 0 1 KL.«Circuit» rfl) (by show D.ptp ((srtN N).map nmE) = _; rw [nmK_D])))) ?_)
          simp only [List.cons_append, List.nil_append]
          walk_at "env"
          refine ws_nil ?_
          exact ⟨_, _, rfl, rfl, cirWk⟩
abbrev s_Circuit_eq : Stmt := inClass (top 15) 3
theorem sc_Circuit_eq : FnScope ["self", "other"] ["self", "other"] (defScope s_Circuit_eq) := ⟨rfl, rfl, rfl, by decide +kernel, rfl, by decide +kernel, by decide +kernel⟩
theorem ok_Circuit_eq {f : Addr} {fd : FuncData} (F : Fun K "__eq__" "Circuit.__eq__" s_Circuit_eq f fd) (B : Bt mg) (KC : Kt K mg) (KL : Lt K mg) (XF : Xt K mg)  :
    FnOk P w K mg base CX0 1 f fd ["self", "other"] (spR K R_Circuit_eq) := by
  refine fn_ok (k := 0) F sc_Circuit_eq (fun ds d h => by cases h; rfl) fun ds d hR cdv A outer s H E hr => ?_
  have nd := sc_Circuit_eq.nd
  have hu := hr.units
  rcases hR with ⟨n, m, N, M, V, W, ok1, ok2⟩
  walk_at "en"
  refine ws_cons (ws_ret (ED.eq (ed_and (ed_isC KL.«Circuit» (by rfl) B.«isinstance» (by rfl) (ed_var 1 rfl)) (fun hb3 => (ed_and (ed_cmp (ed_fld 0 KL.«Circuit» (ed_var 0 rfl)) (ed_fld 0 KL.«Circuit» (ed_var 1 rfl)) (by walk_at "c2")) (fun hb2 => (ed_and (ed_cmp (ed_fld 1 KL.«Circuit» (ed_var 0 rfl)) (ed_fld 1 KL.«Circuit» (ed_var 1 rfl)) (c2_eqNm (k := decide (srtN N = srtN M)) hu (srt_names ok1) (srt_names ok2) (by simp)) (by rfl)) (fun hb1 => (ed_one (ed_cmp (ed_fld 2 KL.«Circuit» (ed_var 0 rfl)) (ed_fld 2 KL.«Circuit» (ed_var 1 rfl)) (c2_eqDev (k := decide (V = W)) hu ok1.dv ok2.dv (by simp)) (by rfl))))))))) ?_) (Or.inl rfl))
  rfl
abbrev s_is_integer : Stmt := top 18
theorem sc_is_integer : FnScope ["word", "digits"] ["word"] (defScope s_is_integer) := ⟨rfl, rfl, rfl, by decide +kernel, rfl, by decide +kernel, by decide +kernel⟩
theorem ok_is_integer {f : Addr} {fd : FuncData} (F : Fun K "is_integer" "is_integer" s_is_integer f fd) (B : Bt mg) (KC : Kt K mg) (KL : Lt K mg) (XF : Xt K mg)  :
    FnOk P w K mg base CX0 1 f fd ["word"] (spR K R_is_integer) := by
  refine fn_ok (k := 0) F sc_is_integer (fun ds d h => by cases h; rfl) fun ds d hR cdv A outer s H E hr => ?_
  have nd := sc_is_integer.nd
  have hu := hr.units
  rcases hR with ⟨w, hl⟩
  have hgl := dgW_len w
  walk_at "en"
  refine ws_cons (ws_set 1 nd (ED.eq (ed_ifv (td_truth (ed_starts (ed_var 0 rfl) ed_str) rfl) (fun hc1 => (ed_sliceS (ed_var 0 rfl) (by rw [sizeLine_eq]; omega) (some_part ed_int) no_part)) (fun hc1 => (ed_var 0 rfl))) (show _ = (D.str (dgW w)) from by exact dgW_if w)) ?_)
  walk_at "env"
  refine ws_cons (ws_if (td_tw (tw_or (td_not (td_truth (ed_isdigit (ed_var 1 rfl)) rfl)) (fun hb3 => (tw_or1 (td_cmp (ed_callB (id := "len") (by rfl) B.«len» bb_len (ad_cons (ed_var 1 rfl) ad_nil) (bc_lenS (by rw [sizeLine_eq]; omega))) (ed_const KC.«MOST_DIGITS» (by rfl)) (by walk_at "c2")))))) (fun hc2 => ?_) (fun hc2 => ?_))
  · skip
    have hno : (Txt.isdigit (dgW w) && decide ((dgW w).length ≤ 30)) = false := by
      cases e : Txt.isdigit (dgW w) with
      | false => rfl
      | true => rw [e] at hc2; simp at hc2; simp; omega
    refine ws_cons (ws_ret (ED.eq ed_bl ?_) (Or.inl rfl))
    first | (rw [isI_no hno]) | (rw [isI_if hyes]; rfl)
  · skip
    have hi9 : Txt.isdigit (dgW w) = true ∧ (dgW w).length ≤ 30 := by
      cases e : Txt.isdigit (dgW w) with
      | false => rw [e] at hc2; simp at hc2
      | true => rw [e] at hc2; simp at hc2; exact ⟨rfl, by omega⟩
    have hyes : (Txt.isdigit (dgW w) && decide ((dgW w).length ≤ 30)) = true := by rw [hi9.1, decide_eq_true hi9.2]; rfl
    refine ws_nil ?_
    refine ws_cons (ws_ret (ED.eq (ed_or (ed_cmp (ed_var 0 rfl) ed_str (by walk_at "c2")) (fun hb4 => (ed_one (ed_cmp (ed_ixS (c := (dgW w).cps.toList.getD 0 0) (ed_var 1 rfl) ed_int (by rw [sizeLine_eq]; omega) (at_hd hi9.1)) ed_str (by walk_at "c2"))))) ?_) (Or.inl rfl))
    first | (rw [isI_no hno]) | (rw [isI_if hyes]; rfl)
abbrev s_read_integers : Stmt := top 19
theorem sc_read_integers : FnScope ["words", "word"] ["words"] (defScope s_read_integers) := ⟨rfl, rfl, rfl, by decide +kernel, rfl, by decide +kernel, by decide +kernel⟩
theorem ok_read_integers {f : Addr} {fd : FuncData} (F : Fun K "read_integers" "read_integers" s_read_integers f fd) (B : Bt mg) (KC : Kt K mg) (KL : Lt K mg) (XF : Xt K mg) (G_is_integer : Fn P w K mg base "is_integer" 1 R_is_integer) :
    FnOk P w K mg base CX0 2 f fd ["words"] (spR K R_read_integers) := by
  refine fn_ok (k := 1) F sc_read_integers (fun ds d h => by cases h; rfl) fun ds d hR cdv A outer s H E hr => ?_
  have nd := sc_read_integers.nd
  have hu := hr.units
  rcases hR with ⟨ws, o, r, hs, hl⟩
  walk_at "en"
  refine ws_cons (ws_if (td_not (td_truth (ed_callB (id := "all") (by rfl) B.«all» bb_all (ad_cons (ed_lst (eo_map2 [("word", 1)] (ws) (D.str) (isIB) (D.bl) rfl nd (blkOk_by (N := ["words", "word"]) (sc := defScope s_read_integers) (by decide +kernel)) (id_list (ed_var 0 rfl)) (rfl) (fun w hxm => ⟨_, by rfl, fun _ _ _ _ _ => ⟨(dg_name 1 nd), tds_nil, (ed_call G_is_integer (hr.mono (by decide)) (by rfl) (ad_cons (ed_var 1 rfl) ad_nil) (by exact .gen _ (hs w hxm)))⟩⟩) (by rw [sizeLine_eq]; omega))) ad_nil) (bc_all rfl)) rfl)) (fun hc1 => ?_) (fun hc1 => ?_))
  · skip
    obtain rfl : o = none := by
      rw [r.all] at hc1
      cases o with
      | none => rfl
      | some ns => cases hc1
    refine ws_cons (ws_ret (ED.eq ed_non ?_) (Or.inl rfl))
    first | rfl | (rw [List.map_id]; rfl)
  · skip
    obtain ⟨ns, rfl⟩ : ∃ ns, o = some ns := by
      rw [r.all] at hc1
      cases o with
      | none => cases hc1
      | some ns => exact ⟨ns, rfl⟩
    obtain ⟨rfl, hz⟩ := r.some
    refine ws_nil ?_
    refine ws_cons (ws_ret (ED.eq (ed_callT (T := "tuple") (by rfl) B.«tuple» bb_tuple (ad_cons (ed_lst (eo_map2 [("word", 1)] (ns) (fun i : Int => D.str (stI i)) (id) (D.int) rfl nd (blkOk_by (N := ["words", "word"]) (sc := defScope s_read_integers) (by decide +kernel)) (id_list (ed_var 0 rfl)) (by rw [List.map_map]; rfl) (fun i hxm => ⟨_, by rfl, fun _ _ _ _ _ => ⟨(dg_name 1 nd), tds_nil, (ed_callT (T := "int") (by rfl) B.«int» bb_int (ad_cons (ed_var 1 rfl) ad_nil) (bc_intS (hz i hxm).int (Nat.le_trans (hz i hxm).len (by decide))))⟩⟩) (by rw [sizeLine_eq]; rw [List.length_map] at hl; omega))) ad_nil) (by walk_at "bc")) ?_) (Or.inl rfl))
    first | rfl | (rw [List.map_id]; rfl)
abbrev s_net_count_in_x : Stmt := top 21
theorem sc_net_count_in_x : FnScope ["words", "numbers"] ["words"] (defScope s_net_count_in_x) := ⟨rfl, rfl, rfl, by decide +kernel, rfl, by decide +kernel, by decide +kernel⟩
theorem ok_net_count_in_x {f : Addr} {fd : FuncData} (F : Fun K "net_count_in" "net_count_in" s_net_count_in_x f fd) (B : Bt mg) (KC : Kt K mg) (KL : Lt K mg) (XF : Xt K mg) (G_is_net_count : Fn P w K mg base "is_net_count" 1 R_is_net_count) (G_read_integers : Fn P w K mg base "read_integers" 2 R_read_integers) :
    FnOk P w K mg base CX0 3 f fd ["words"] (spR K R_net_count_in_x) := by
  refine fn_ok (k := 2) F sc_net_count_in_x (fun ds d h => by cases h; rfl) fun ds d hR cdv A outer s H E hr => ?_
  have nd := sc_net_count_in_x.nd
  have hu := hr.units
  rcases hR with ⟨ws, hB, hw⟩
  walk_at "en"
  rcases hB with ⟨_, o, r, hb⟩ | ⟨i, hi, hb⟩
  · skip
    refine ws_cons (ws_set 1 nd (ed_call G_read_integers (hr.mono (by decide)) (by rfl) (ad_cons (ED.eq (ed_lst (eo_slice (ed_var 0 rfl) (some_part ed_int) no_part)) (show _ = (.lst ((ws.drop 1).map .str)) from by rw [cutDrop _ (by decide), List.map_drop]; rfl)) ad_nil) (by exact .gen (ws.drop 1) o r (fun w h9 => hw.lens w (List.mem_of_mem_drop h9)) (by rw [List.length_drop]; have := hw.few; omega))) ?_)
    walk_at "env"
    refine ws_cons (ws_if (td_tw (tw_or (td_cmp (ED.eq (ed_callB (id := "len") (by rfl) B.«len» bb_len (ad_cons (ed_var 0 rfl) ad_nil) (by walk_at "bc")) (show _ = (D.int (ws.length : Int)) from by rw [List.length_map])) ed_int (by walk_at "c2")) (fun hb3 => (tw_or (td_cmp (ed_ix (d := .str (ws.headD "")) (ed_var 0 rfl) ed_int (.l (hd_at hw.ne))) ed_str (by walk_at "c2")) (fun hb2 => (tw_or1 (td_cmp (ed_var 1 rfl) ed_non (by walk_at "c2")))))))) (fun hc1 => ?_) (fun hc1 => ?_))
    · skip
      clear hc1
      refine ws_cons (ws_ret (ED.eq ed_non ?_) (Or.inl rfl))
      rfl
    · skip
      exact (no_fall (k := 2) hb hc1).elim
  · skip
    refine ws_cons (ws_set 1 nd (ED.eq (ed_call G_read_integers (hr.mono (by decide)) (by rfl) (ad_cons (ED.eq (ed_lst (eo_slice (ed_var 0 rfl) (some_part ed_int) no_part)) (show _ = (.lst (([stI i] : List Str).map .str)) from by rfl)) ad_nil) (by exact .gen [stI i] (some [i]) (.ok [i] (fun j hj => by rw [List.mem_singleton.mp hj]; exact hi)) (fun w hw9 => by rw [List.mem_singleton.mp hw9]; have := hi.len; omega) (by simp))) (show _ = (.tup [.int i]) from by rfl)) ?_)
    walk_at "env"
    refine ws_cons (ws_if (td_tw (tw_or (td_cmp (ed_callB (id := "len") (by rfl) B.«len» bb_len (ad_cons (ed_var 0 rfl) ad_nil) (by walk_at "bc")) ed_int (by walk_at "c2")) (fun hb6 => (tw_or (td_cmp (ed_ix (ed_var 0 rfl) ed_int (by walk_at "ix")) ed_str (by walk_at "c2")) (fun hb5 => (tw_or1 (td_cmp (ed_var 1 rfl) ed_non (by walk_at "c2")))))))) (fun hc4 => ?_) (fun hc4 => ?_))
    · skip
      exfalso; simp [wN, isNon, optT] at hc4
    · skip
      clear hc4
      refine ws_nil ?_
      refine ws_cons (ws_ret (ED.eq (ED.eq (ed_ifv (td_truth (ed_call G_is_net_count (hr.mono (by decide)) (by rfl) (ad_cons (ed_ix (ed_var 1 rfl) ed_int (by walk_at "ix")) ad_nil) (by walk_at "mk")) rfl) (fun hc7 => (ed_ix (ed_var 1 rfl) ed_int (by walk_at "ix"))) (fun hc7 => ed_non)) (show _ = (.non) from by rw [if_neg (by simp; omega)])) ?_) (Or.inl rfl))
      rfl
abbrev s_net_count_in_v : Stmt := top 21
theorem sc_net_count_in_v : FnScope ["words", "numbers"] ["words"] (defScope s_net_count_in_v) := ⟨rfl, rfl, rfl, by decide +kernel, rfl, by decide +kernel, by decide +kernel⟩
theorem ok_net_count_in_v {f : Addr} {fd : FuncData} (F : Fun K "net_count_in" "net_count_in" s_net_count_in_v f fd) (B : Bt mg) (KC : Kt K mg) (KL : Lt K mg) (XF : Xt K mg) (G_is_net_count : Fn P w K mg base "is_net_count" 1 R_is_net_count) (G_read_integers : Fn P w K mg base "read_integers" 2 R_read_integers) :
    FnOk P w K mg base CX0 4 f fd ["words"] (spR K R_net_count_in_v) := by
  refine fn_ok (k := 3) F sc_net_count_in_v (fun ds d h => by cases h; rfl) fun ds d hR cdv A outer s H E hr => ?_
  have nd := sc_net_count_in_v.nd
  have hu := hr.units
  rcases hR with ⟨n, hn⟩
  walk_at "en"
  refine ws_cons (ws_set 1 nd (ed_call G_read_integers (hr.mono (by decide)) (by rfl) (ad_cons (ED.eq (ed_lst (eo_slice (ed_var 0 rfl) (some_part ed_int) no_part)) (show _ = (D.lst (([n] : List Int).map fun i => D.str (stI i))) from by rfl)) ad_nil) (by exact .mk [n] (by intro i hi; rw [List.mem_singleton.mp hi]; exact ⟨by omega⟩) (by simp))) ?_)
  walk_at "env"
  refine ws_cons (ws_if (td_tw (tw_or (td_cmp (ed_callB (id := "len") (by rfl) B.«len» bb_len (ad_cons (ed_var 0 rfl) ad_nil) (by walk_at "bc")) ed_int (by walk_at "c2")) (fun hb3 => (tw_or (td_cmp (ed_ix (ed_var 0 rfl) ed_int (by walk_at "ix")) ed_str (by walk_at "c2")) (fun hb2 => (tw_or1 (td_cmp (ed_var 1 rfl) ed_non (by walk_at "c2")))))))) (fun hc1 => ?_) (fun hc1 => ?_))
  · skip
    exfalso; simp [wN, isNon] at hc1
  · skip
    clear hc1
    refine ws_nil ?_
    refine ws_cons (ws_ret (ED.eq (ED.eq (ed_ifv (td_truth (ed_call G_is_net_count (hr.mono (by decide)) (by rfl) (ad_cons (ed_ix (ed_var 1 rfl) ed_int (by walk_at "ix")) ad_nil) (by walk_at "mk")) rfl) (fun hc4 => (ed_ix (ed_var 1 rfl) ed_int (by walk_at "ix"))) (fun hc4 => ed_non)) (show _ = (D.int n) from by rw [if_pos (by simp; omega)])) ?_) (Or.inl rfl))
    rfl
abbrev s_name_in_x : Stmt := top 22
theorem sc_name_in_x : FnScope ["words", "net_count", "names", "numbers", "name", "net", "last_net", "_", "other"] ["words", "net_count", "names"] (defScope s_name_in_x) := ⟨rfl, rfl, rfl, by decide +kernel, rfl, by decide +kernel, by decide +kernel⟩
theorem ok_name_in_x {f : Addr} {fd : FuncData} (F : Fun K "name_in" "name_in" s_name_in_x f fd) (B : Bt mg) (KC : Kt K mg) (KL : Lt K mg) (XF : Xt K mg) (G_is_name : Fn P w K mg base "is_name" 1 R_is_name) (G_read_integers : Fn P w K mg base "read_integers" 2 R_read_integers) :
    FnOk P w K mg base CX0 3 f fd ["words", "net_count", "names"] (spR K R_name_in_x) := by
  refine fn_ok (k := 2) F sc_name_in_x (fun ds d h => by cases h; rfl) fun ds d hR cdv A outer s H E hr => ?_
  have nd := sc_name_in_x.nd
  have hu := hr.units
  rcases hR with ⟨n, dn, ws, hB, hw, hl⟩
  walk_at "en"
  rcases hB with ⟨_, o, r, hb⟩ | ⟨nm, i, hi, hb⟩
  · skip
    refine ws_cons (ws_set 3 nd (ed_call G_read_integers (hr.mono (by decide)) (by rfl) (ad_cons (ED.eq (ed_lst (eo_slice (ed_var 0 rfl) (some_part ed_int) no_part)) (show _ = (.lst ((ws.drop 2).map .str)) from by rw [cutDrop _ (by decide), List.map_drop]; rfl)) ad_nil) (by exact .gen (ws.drop 2) o r (fun w h9 => hw.lens w (List.mem_of_mem_drop h9)) (by rw [List.length_drop]; have := hw.few; omega))) ?_)
    walk_at "env"
    refine ws_cons (ws_if (td_tw (tw_or (td_cmp (ED.eq (ed_callB (id := "len") (by rfl) B.«len» bb_len (ad_cons (ed_var 0 rfl) ad_nil) (by walk_at "bc")) (show _ = (D.int (ws.length : Int)) from by rw [List.length_map])) ed_int (by walk_at "c2")) (fun hb3 => (tw_or (td_cmp (ed_ix (d := .str (ws.headD "")) (ed_var 0 rfl) ed_int (.l (hd_at hw.ne))) ed_str (by walk_at "c2")) (fun hb2 => (tw_or1 (td_cmp (ed_var 3 rfl) ed_non (by walk_at "c2")))))))) (fun hc1 => ?_) (fun hc1 => ?_))
    · skip
      clear hc1
      refine ws_cons (ws_ret (ED.eq ed_non ?_) (Or.inl rfl))
      rfl
    · skip
      exact (no_fall (k := 3) hb hc1).elim
  · skip
    refine ws_cons (ws_set 3 nd (ED.eq (ed_call G_read_integers (hr.mono (by decide)) (by rfl) (ad_cons (ED.eq (ed_lst (eo_slice (ed_var 0 rfl) (some_part ed_int) no_part)) (show _ = (.lst (([stI i] : List Str).map .str)) from by rfl)) ad_nil) (by exact .gen [stI i] (some [i]) (.ok [i] (fun j hj => by rw [List.mem_singleton.mp hj]; exact hi)) (fun w hw9 => by rw [List.mem_singleton.mp hw9]; have := hi.len; omega) (by simp))) (show _ = (.tup [.int i]) from by rfl)) ?_)
    walk_at "env"
    refine ws_cons (ws_if (td_tw (tw_or (td_cmp (ed_callB (id := "len") (by rfl) B.«len» bb_len (ad_cons (ed_var 0 rfl) ad_nil) (by walk_at "bc")) ed_int (by walk_at "c2")) (fun hb6 => (tw_or (td_cmp (ed_ix (ed_var 0 rfl) ed_int (by walk_at "ix")) ed_str (by walk_at "c2")) (fun hb5 => (tw_or1 (td_cmp (ed_var 3 rfl) ed_non (by walk_at "c2")))))))) (fun hc4 => ?_) (fun hc4 => ?_))
    · skip
      exfalso; simp [isNon] at hc4
    · skip
      clear hc4
      refine ws_nil ?_
      refine ws_cons (ws_par 4 5 rfl nd (ad_cons (ed_ix (ed_var 0 rfl) ed_int (by walk_at "ix")) (ad_cons (ed_ix (ed_var 3 rfl) ed_int (by walk_at "ix")) ad_nil)) ?_)
      walk_at "env"
      refine ws_cons (ws_set 6 nd (ED.eq (ed_ifI (td_truth (ed_var 2 rfl) rfl) (fun hc7 => (ed_ix (ed_ix (ed_var 2 rfl) (ed_neg ed_int) (.l (at_lastN (dn := dn) (fun z => by simp_all)))) ed_int (by walk_at "ix"))) (fun hc7 => (ed_neg ed_int))) (show _ = (D.int (lastN dn)) from by rw [last_if])) ?_)
      walk_at "env"
      refine ws_cons (ws_if (td_tw (tw_or (td_not (td_chain (ed_var 6 rfl) (ed_var 5 rfl) (ed_var 1 rfl) (by walk_at "c2") (by walk_at "c2"))) (fun hb11 => (tw_or (td_not (td_truth (ed_call G_is_name (hr.mono (by decide)) (by rfl) (ad_cons (ed_var 4 rfl) ad_nil) (by exact .mk _ (by have := (hw.ok nm (by simp)).n; rw [sizeLine_eq]; omega))) rfl)) (fun hb10 => (tw_or1 (td_cmp (ed_var 4 rfl) (ed_lst (eo_map2 [("_", 7), ("other", 8)] (dn) (nmE) (fun p : Nm => p.2) (D.str) rfl nd (blkOk_by (N := ["words", "net_count", "names", "numbers", "name", "net", "last_net", "_", "other"]) (sc := defScope s_name_in_x) (by decide +kernel)) (id_list (ed_var 2 rfl)) (rfl) (fun p hxm => ⟨_, by rfl, fun _ _ _ _ _ => ⟨(dg_tup rfl (dgs_cons (dg_name 7 nd) (dgs_cons (dg_name 8 nd) dgs_nil))), tds_nil, (ed_var 8 rfl)⟩⟩) (by rw [sizeLine_eq]; omega))) (c2_inStr (ys := dn.map (·.2)) (.lst _)) (by rfl)))))))) (fun hc8 => ?_) (fun hc8 => ?_))
      · skip
        clear hc8
        refine ws_cons (ws_ret (ED.eq ed_non ?_) (Or.inl rfl))
        rfl
      · skip
        exfalso; revert hc8; rcases hb with hb | hb | hb <;> simp [hb] <;> omega
abbrev s_name_in_q : Stmt := top 22
theorem sc_name_in_q : FnScope ["words", "net_count", "names", "numbers", "name", "net", "last_net", "_", "other"] ["words", "net_count", "names"] (defScope s_name_in_q) := ⟨rfl, rfl, rfl, by decide +kernel, rfl, by decide +kernel, by decide +kernel⟩
theorem ok_name_in_q {f : Addr} {fd : FuncData} (F : Fun K "name_in" "name_in" s_name_in_q f fd) (B : Bt mg) (KC : Kt K mg) (KL : Lt K mg) (XF : Xt K mg) (G_is_name : Fn P w K mg base "is_name" 1 R_is_name) (G_read_integers : Fn P w K mg base "read_integers" 2 R_read_integers) :
    FnOk P w K mg base CX0 4 f fd ["words", "net_count", "names"] (spR K R_name_in_q) := by
  refine fn_ok (k := 3) F sc_name_in_q (fun ds d h => by cases h; rfl) fun ds d hR cdv A outer s H E hr => ?_
  have nd := sc_name_in_q.nd
  have hu := hr.units
  rcases hR with ⟨n, dn, q, hlt, hq, hn, hnm, hnew, hl⟩
  walk_at "en"
  refine ws_cons (ws_set 3 nd (ed_call G_read_integers (hr.mono (by decide)) (by rfl) (ad_cons (ED.eq (ed_lst (eo_slice (ed_var 0 rfl) (some_part ed_int) no_part)) (show _ = (D.lst (([q.1] : List Int).map fun i => D.str (stI i))) from by rfl)) ad_nil) (by exact .mk [q.1] (by intro i hi; rw [List.mem_singleton.mp hi]; exact rd_small hq hn) (by simp))) ?_)
  walk_at "env"
  refine ws_cons (ws_if (td_tw (tw_or (td_cmp (ed_callB (id := "len") (by rfl) B.«len» bb_len (ad_cons (ed_var 0 rfl) ad_nil) (by walk_at "bc")) ed_int (by walk_at "c2")) (fun hb3 => (tw_or (td_cmp (ed_ix (ed_var 0 rfl) ed_int (by walk_at "ix")) ed_str (by walk_at "c2")) (fun hb2 => (tw_or1 (td_cmp (ed_var 3 rfl) ed_non (by walk_at "c2")))))))) (fun hc1 => ?_) (fun hc1 => ?_))
  · skip
    exfalso; simp [wQ, isNon] at hc1
  · skip
    clear hc1
    refine ws_nil ?_
    refine ws_cons (ws_par 4 5 rfl nd (ad_cons (ed_ix (ed_var 0 rfl) ed_int (by walk_at "ix")) (ad_cons (ed_ix (ed_var 3 rfl) ed_int (by walk_at "ix")) ad_nil)) ?_)
    walk_at "env"
    refine ws_cons (ws_set 6 nd (ED.eq (ed_ifI (td_truth (ed_var 2 rfl) rfl) (fun hc4 => (ed_ix (ed_ix (ed_var 2 rfl) (ed_neg ed_int) (.l (at_lastN (dn := dn) (fun z => by simp_all)))) ed_int (by walk_at "ix"))) (fun hc4 => (ed_neg ed_int))) (show _ = (D.int (lastN dn)) from by rw [last_if])) ?_)
    walk_at "env"
    refine ws_cons (ws_if (td_tw (tw_or (td_not (td_chain (ed_var 6 rfl) (ed_var 5 rfl) (ed_var 1 rfl) (by walk_at "c2") (by walk_at "c2"))) (fun hb8 => (tw_or (td_not (td_truth (ed_call G_is_name (hr.mono (by decide)) (by rfl) (ad_cons (ed_var 4 rfl) ad_nil) (by exact .mk _ (by have := nameB_len hnm; rw [sizeLine_eq]; omega))) rfl)) (fun hb7 => (tw_or1 (td_cmp (ed_var 4 rfl) (ed_lst (eo_map2 [("_", 7), ("other", 8)] (dn) (nmE) (fun p : Nm => p.2) (D.str) rfl nd (blkOk_by (N := ["words", "net_count", "names", "numbers", "name", "net", "last_net", "_", "other"]) (sc := defScope s_name_in_q) (by decide +kernel)) (id_list (ed_var 2 rfl)) (rfl) (fun p hxm => ⟨_, by rfl, fun _ _ _ _ _ => ⟨(dg_tup rfl (dgs_cons (dg_name 7 nd) (dgs_cons (dg_name 8 nd) dgs_nil))), tds_nil, (ed_var 8 rfl)⟩⟩) (by rw [sizeLine_eq]; omega))) (c2_inStr (ys := dn.map (·.2)) (.lst _)) (by rfl)))))))) (fun hc5 => ?_) (fun hc5 => ?_))
    · skip
      exfalso; rw [decide_eq_true (lastN_lt hlt hq.1), decide_eq_true hq.2, hnm, decide_eq_false hnew] at hc5; cases hc5
    · skip
      clear hc5
      refine ws_nil ?_
      refine ws_cons (ws_ret (ED.eq (ed_tup (ad_cons (ed_var 5 rfl) (ad_cons (ed_var 4 rfl) ad_nil))) ?_) (Or.inl rfl))
      rfl
abbrev s_name_in_v : Stmt := top 22
theorem sc_name_in_v : FnScope ["words", "net_count", "names", "numbers", "name", "net", "last_net", "_", "other"] ["words", "net_count", "names"] (defScope s_name_in_v) := ⟨rfl, rfl, rfl, by decide +kernel, rfl, by decide +kernel, by decide +kernel⟩
theorem ok_name_in_v {f : Addr} {fd : FuncData} (F : Fun K "name_in" "name_in" s_name_in_v f fd) (B : Bt mg) (KC : Kt K mg) (KL : Lt K mg) (XF : Xt K mg) (G_read_integers : Fn P w K mg base "read_integers" 2 R_read_integers) :
    FnOk P w K mg base CX0 5 f fd ["words", "net_count", "names"] (spR K R_name_in_v) := by
  refine fn_ok (k := 4) F sc_name_in_v (fun ds d h => by cases h; rfl) fun ds d hR cdv A outer s H E hr => ?_
  have nd := sc_name_in_v.nd
  have hu := hr.units
  rcases hR with ⟨n, dn, v, h⟩
  walk_at "en"
  refine ws_cons (ws_set 3 nd (ed_call G_read_integers (hr.mono (by decide)) (by rfl) (ad_cons (ED.eq (ed_lst (eo_slice (ed_var 0 rfl) (some_part ed_int) no_part)) (show _ = (D.lst (([v.g, v.a, v.b, v.w, v.l] : List Int).map fun i => D.str (stI i))) from by rfl)) ad_nil) (by exact .mk [v.g, v.a, v.b, v.w, v.l] (by intro i hi; have hi : i = v.g ∨ i = v.a ∨ i = v.b ∨ i = v.w ∨ i = v.l := (by simpa using hi); rcases hi with rfl | rfl | rfl | rfl | rfl <;> first | exact h.g | exact h.a | exact h.b | exact h.w | exact h.l) (by simp))) ?_)
  walk_at "env"
  refine ws_cons (ws_if (td_tw (tw_or (td_cmp (ed_callB (id := "len") (by rfl) B.«len» bb_len (ad_cons (ed_var 0 rfl) ad_nil) (by walk_at "bc")) ed_int (by walk_at "c2")) (fun hb3 => (tw_or (td_cmp (ed_ix (ed_var 0 rfl) ed_int (by walk_at "ix")) ed_str (by walk_at "c2")) (fun hb2 => (tw_or1 (td_cmp (ed_var 3 rfl) ed_non (by walk_at "c2")))))))) (fun hc1 => ?_) (fun hc1 => ?_))
  · skip
    clear hc1
    refine ws_cons (ws_ret (ED.eq ed_non ?_) (Or.inl rfl))
    rfl
  · skip
    exfalso; simp [wV, isNon] at hc1
abbrev s_device_in_x : Stmt := top 23
theorem sc_device_in_x : FnScope ["words", "net_count", "numbers", "device"] ["words", "net_count"] (defScope s_device_in_x) := ⟨rfl, rfl, rfl, by decide +kernel, rfl, by decide +kernel, by decide +kernel⟩
theorem ok_device_in_x {f : Addr} {fd : FuncData} (F : Fun K "device_in" "device_in" s_device_in_x f fd) (B : Bt mg) (KC : Kt K mg) (KL : Lt K mg) (XF : Xt K mg) (G_is_device : Fn P w K mg base "is_device" 1 R_is_device) (G_read_integers : Fn P w K mg base "read_integers" 2 R_read_integers) :
    FnOk P w K mg base CX0 3 f fd ["words", "net_count"] (spR K R_device_in_x) := by
  refine fn_ok (k := 2) F sc_device_in_x (fun ds d h => by cases h; rfl) fun ds d hR cdv A outer s H E hr => ?_
  have nd := sc_device_in_x.nd
  have hu := hr.units
  rcases hR with ⟨n, ws, hB, hw⟩
  walk_at "en"
  rcases hB with ⟨_, o, r, hb⟩ | ⟨v, hz, hb⟩
  · skip
    refine ws_cons (ws_set 2 nd (ed_call G_read_integers (hr.mono (by decide)) (by rfl) (ad_cons (ED.eq (ed_lst (eo_slice (ed_var 0 rfl) (some_part ed_int) no_part)) (show _ = (.lst ((ws.drop 2).map .str)) from by rw [cutDrop _ (by decide), List.map_drop]; rfl)) ad_nil) (by exact .gen (ws.drop 2) o r (fun w h9 => hw.lens w (List.mem_of_mem_drop h9)) (by rw [List.length_drop]; have := hw.few; omega))) ?_)
    walk_at "env"
    refine ws_cons (ws_if (td_tw (tw_or (td_cmp (ED.eq (ed_callB (id := "len") (by rfl) B.«len» bb_len (ad_cons (ed_var 0 rfl) ad_nil) (by walk_at "bc")) (show _ = (D.int (ws.length : Int)) from by rw [List.length_map])) ed_int (by walk_at "c2")) (fun hb3 => (tw_or (td_cmp (ed_ix (d := .str (ws.headD "")) (ed_var 0 rfl) ed_int (.l (hd_at hw.ne))) ed_str (by walk_at "c2")) (fun hb2 => (tw_or1 (td_cmp (ed_var 2 rfl) ed_non (by walk_at "c2")))))))) (fun hc1 => ?_) (fun hc1 => ?_))
    · skip
      clear hc1
      refine ws_cons (ws_ret (ED.eq ed_non ?_) (Or.inl rfl))
      rfl
    · skip
      exact (no_fall (k := 7) hb hc1).elim
  · skip
    refine ws_cons (ws_set 2 nd (ED.eq (ed_call G_read_integers (hr.mono (by decide)) (by rfl) (ad_cons (ED.eq (ed_lst (eo_slice (ed_var 0 rfl) (some_part ed_int) no_part)) (show _ = (D.lst (([v.g, v.a, v.b, v.w, v.l] : List Int).map fun i => D.str (stI i))) from by rfl)) ad_nil) (by exact .gen ([v.g, v.a, v.b, v.w, v.l].map stI) (some [v.g, v.a, v.b, v.w, v.l]) (.ok _ hz) (fun w hw9 => hw.lens w (by simp [wV]; simp at hw9; rcases hw9 with h | h | h | h | h <;> simp [h])) (by simp))) (show _ = (.tup (([v.g, v.a, v.b, v.w, v.l] : List Int).map .int)) from by rfl)) ?_)
    walk_at "env"
    refine ws_cons (ws_if (td_tw (tw_or (td_cmp (ed_callB (id := "len") (by rfl) B.«len» bb_len (ad_cons (ed_var 0 rfl) ad_nil) (by walk_at "bc")) ed_int (by walk_at "c2")) (fun hb6 => (tw_or (td_cmp (ed_ix (ed_var 0 rfl) ed_int (by walk_at "ix")) ed_str (by walk_at "c2")) (fun hb5 => (tw_or1 (td_cmp (ed_var 2 rfl) ed_non (by walk_at "c2")))))))) (fun hc4 => ?_) (fun hc4 => ?_))
    · skip
      exfalso; simp [wV, isNon, optT] at hc4
    · skip
      clear hc4
      refine ws_nil ?_
      refine ws_cons (ws_set 3 nd (ED.eq (ed_tup (ad_cons (ed_ix (ed_var 0 rfl) ed_int (by walk_at "ix")) (ad_star (ed_var 2 rfl) ad_nil)) (by show (6 : Nat) ≤ sizeLine; rw [sizeLine_eq]; omega)) (show _ = v.e from rfl)) ?_)
      walk_at "env"
      refine ws_cons (ws_ret (ED.eq (ED.eq (ed_ifv (td_truth (ed_call G_is_device (hr.mono (by decide)) (by rfl) (ad_cons (ed_var 3 rfl) (ad_cons (ed_var 1 rfl) ad_nil)) (by exact .mk v n _ rfl)) rfl) (fun hc7 => (ed_var 3 rfl)) (fun hc7 => ed_non)) (show _ = (.non) from by rw [if_neg (by rw [hb]; decide)])) ?_) (Or.inl rfl))
      rfl
abbrev s_device_in_q : Stmt := top 23
theorem sc_device_in_q : FnScope ["words", "net_count", "numbers", "device"] ["words", "net_count"] (defScope s_device_in_q) := ⟨rfl, rfl, rfl, by decide +kernel, rfl, by decide +kernel, by decide +kernel⟩
theorem ok_device_in_q {f : Addr} {fd : FuncData} (F : Fun K "device_in" "device_in" s_device_in_q f fd) (B : Bt mg) (KC : Kt K mg) (KL : Lt K mg) (XF : Xt K mg) (G_read_integers : Fn P w K mg base "read_integers" 2 R_read_integers) :
    FnOk P w K mg base CX0 4 f fd ["words", "net_count"] (spR K R_device_in_q) := by
  refine fn_ok (k := 3) F sc_device_in_q (fun ds d h => by cases h; rfl) fun ds d hR cdv A outer s H E hr => ?_
  have nd := sc_device_in_q.nd
  have hu := hr.units
  rcases hR with ⟨n, q, h⟩
  walk_at "en"
  refine ws_cons (ws_set 2 nd (ed_call G_read_integers (hr.mono (by decide)) (by rfl) (ad_cons (ED.eq (ed_lst (eo_slice (ed_var 0 rfl) (some_part ed_int) no_part)) (show _ = (D.lst (([q.1] : List Int).map fun i => D.str (stI i))) from by rfl)) ad_nil) (by exact .mk [q.1] (by intro i hi; rw [List.mem_singleton.mp hi]; exact h) (by simp))) ?_)
  walk_at "env"
  refine ws_cons (ws_if (td_tw (tw_or (td_cmp (ed_callB (id := "len") (by rfl) B.«len» bb_len (ad_cons (ed_var 0 rfl) ad_nil) (by walk_at "bc")) ed_int (by walk_at "c2")) (fun hb3 => (tw_or (td_cmp (ed_ix (ed_var 0 rfl) ed_int (by walk_at "ix")) ed_str (by walk_at "c2")) (fun hb2 => (tw_or1 (td_cmp (ed_var 2 rfl) ed_non (by walk_at "c2")))))))) (fun hc1 => ?_) (fun hc1 => ?_))
  · skip
    clear hc1
    refine ws_cons (ws_ret (ED.eq ed_non ?_) (Or.inl rfl))
    rfl
  · skip
    exfalso; simp [wQ, isNon] at hc1
abbrev s_device_in_v : Stmt := top 23
theorem sc_device_in_v : FnScope ["words", "net_count", "numbers", "device"] ["words", "net_count"] (defScope s_device_in_v) := ⟨rfl, rfl, rfl, by decide +kernel, rfl, by decide +kernel, by decide +kernel⟩
theorem ok_device_in_v {f : Addr} {fd : FuncData} (F : Fun K "device_in" "device_in" s_device_in_v f fd) (B : Bt mg) (KC : Kt K mg) (KL : Lt K mg) (XF : Xt K mg) (G_is_device : Fn P w K mg base "is_device" 1 R_is_device) (G_read_integers : Fn P w K mg base "read_integers" 2 R_read_integers) :
    FnOk P w K mg base CX0 5 f fd ["words", "net_count"] (spR K R_device_in_v) := by
  refine fn_ok (k := 4) F sc_device_in_v (fun ds d h => by cases h; rfl) fun ds d hR cdv A outer s H E hr => ?_
  have nd := sc_device_in_v.nd
  have hu := hr.units
  rcases hR with ⟨n, v, h, hd⟩
  walk_at "en"
  refine ws_cons (ws_set 2 nd (ed_call G_read_integers (hr.mono (by decide)) (by rfl) (ad_cons (ED.eq (ed_lst (eo_slice (ed_var 0 rfl) (some_part ed_int) no_part)) (show _ = (D.lst (([v.g, v.a, v.b, v.w, v.l] : List Int).map fun i => D.str (stI i))) from by rfl)) ad_nil) (by exact .mk [v.g, v.a, v.b, v.w, v.l] (by intro i hi; have hi : i = v.g ∨ i = v.a ∨ i = v.b ∨ i = v.w ∨ i = v.l := (by simpa using hi); rcases hi with rfl | rfl | rfl | rfl | rfl <;> first | exact h.g | exact h.a | exact h.b | exact h.w | exact h.l) (by simp))) ?_)
  walk_at "env"
  refine ws_cons (ws_if (td_tw (tw_or (td_cmp (ed_callB (id := "len") (by rfl) B.«len» bb_len (ad_cons (ed_var 0 rfl) ad_nil) (by walk_at "bc")) ed_int (by walk_at "c2")) (fun hb3 => (tw_or (td_cmp (ed_ix (ed_var 0 rfl) ed_int (by walk_at "ix")) ed_str (by walk_at "c2")) (fun hb2 => (tw_or1 (td_cmp (ed_var 2 rfl) ed_non (by walk_at "c2")))))))) (fun hc1 => ?_) (fun hc1 => ?_))
  · skip
    exfalso; simp [wV, isNon] at hc1
  · skip
    clear hc1
    refine ws_nil ?_
    refine ws_cons (ws_set 3 nd (ED.eq (ed_tup (ad_cons (ed_ix (ed_var 0 rfl) ed_int (by walk_at "ix")) (ad_star (ed_var 2 rfl) ad_nil)) (by show (6 : Nat) ≤ sizeLine; rw [sizeLine_eq]; omega)) (show _ = v.e from rfl)) ?_)
    walk_at "env"
    refine ws_cons (ws_ret (ED.eq (ED.eq (ed_ifv (td_truth (ed_call G_is_device (hr.mono (by decide)) (by rfl) (ad_cons (ed_var 3 rfl) (ad_cons (ed_var 1 rfl) ad_nil)) (by exact .mk v n _ rfl)) rfl) (fun hc4 => (ed_var 3 rfl)) (fun hc4 => ed_non)) (show _ = (v.e) from by rw [if_pos hd])) ?_) (Or.inl rfl))
    rfl
abbrev s_parse_circuit : Stmt := top 24
theorem sc_parse_circuit : FnScope ["text", "lines", "net_count", "names", "devices", "number", "words", "name", "device", "line"] ["text"] (defScope s_parse_circuit) := ⟨rfl, rfl, rfl, by decide +kernel, rfl, by decide +kernel, by decide +kernel⟩
theorem ok_parse_circuit {f : Addr} {fd : FuncData} (F : Fun K "parse_circuit" "parse_circuit" s_parse_circuit f fd) (B : Bt mg) (KC : Kt K mg) (KL : Lt K mg) (XF : Xt K mg) (G_Circuit_init : FnI P w K mg base "Circuit" 3 R_Circuit_init) (G_device_in_q : Fn P w K mg base "device_in" 4 R_device_in_q) (G_device_in_v : Fn P w K mg base "device_in" 5 R_device_in_v) (G_name_in_q : Fn P w K mg base "name_in" 4 R_name_in_q) (G_name_in_v : Fn P w K mg base "name_in" 5 R_name_in_v) (G_net_count_in_v : Fn P w K mg base "net_count_in" 4 R_net_count_in_v) (G_net_count_in_v : Fn P w K mg base "net_count_in" 4 R_net_count_in_v) :
    FnOk P w K mg base CX0 6 f fd ["text"] (spR K R_parse_circuit) := by
  refine fn_ok (k := 5) F sc_parse_circuit (fun ds d h => by cases h; rfl) fun ds d hR cdv A outer s H E hr => ?_
  have nd := sc_parse_circuit.nd
  have hu := hr.units
  rcases hR with ⟨n, N, V, t, asc⟩
  have hnl := t.ok.nl
  have hvl := t.ok.vl
  walk_at "en"
  refine ws_cons (ws_setMap 1 [("line", 9)] (wsC n N V) (fun ws : List Str => D.str (lnW ws)) (fun ws : List Str => D.lst (ws.map D.str)) rfl nd (blkOk_by (N := ["text", "lines", "net_count", "names", "devices", "number", "words", "name", "device", "line"]) (sc := defScope s_parse_circuit) (by decide +kernel)) (id_list (ed_lst (eo_split (ed_var 0 rfl) ed_str (by decide +kernel) (by have := tx_len t; rw [sizeLine_eq]; omega)))) (by rw [tx_split t, List.map_map]; rfl) (fun ws hxm => by have hw := t.ws hxm; exact ⟨_, by rfl, fun _ _ _ _ _ => ⟨(dg_name 9 nd), tds_nil, (ED.eq (ed_lst (eo_split (ed_var 9 rfl) ed_str (by decide +kernel) (by have := ln_len hw.2.2 hw.2.1; rw [sizeLine_eq]; omega))) (show _ = D.lst (ws.map D.str) by rw [ln_split hw.1 hw.2.2]))⟩⟩) (by have := wsC_len t; rw [sizeLine_eq]; omega) ?_)
  refine ws_share 1 rfl ?_
  walk_at "env"
  refine ws_cons (ws_set 2 nd (ed_call G_net_count_in_v (hr.mono (by decide)) (by rfl) (ad_cons (ED.eq (ed_ix (ed_var 1 rfl) ed_int IX.l0) (show _ = D.lst ((wN n).map D.str) from rfl)) ad_nil) (by exact .mk _ t.ok.nn)) ?_)
  walk_at "env"
  refine ws_cons (ws_if (td_cmp (ed_var 2 rfl) ed_non (by walk_at "c2")) (fun hc2 => ?_) (fun hc2 => ?_))
  · skip
    cases hc2
  · skip
    clear hc2
    refine ws_nil ?_
    refine ws_cons (ws_setO 3 nd (eo_lst ad_nil) ?_)
    walk_at "env"
    refine ws_cons (ws_setO 4 nd (eo_lst ad_nil) ?_)
    walk_at "env"
    refine ws_cons (ws_forU (List.range (N.length + V.length)) (fun (i : Nat) => D.tup [.int (((2 : Nat) : Int) + (i : Int)), .lst ((tWd N V i).map D.str)]) rfl (id_enumS (k := 2) (by rfl) B.«enumerate» (ed_lst (eo_slice (ed_var 1 rfl) (some_part ed_int) no_part))) (by exact tx_enum) (U := Sl × Sl × Sl × Sl) (fun i u => [(3, .ow (.lst ((N.take i).map nmE))), (4, .ow (.lst ((V.take (i - N.length)).map Dev.e))), (5, u.1), (6, u.2.1), (7, u.2.2.1), (8, u.2.2.2)]) (fun r => (r.getD 5 .no, r.getD 6 .no, r.getD 7 .no, r.getD 8 .no)) (fun _ => True) (by simp; rfl) (True.intro) ?_ ?_)
    · intro i0 t u0 hx0 hP0
      obtain rfl : i0 = t := by
        obtain ⟨hl, he⟩ := List.getElem?_eq_some_iff.mp hx0
        rw [List.getElem_range] at he; exact he
      have hi0 : i0 < N.length + V.length := by have := (List.getElem?_eq_some_iff.mp hx0).1; rwa [List.length_range] at this
      refine ⟨_, _, (dg_tup rfl (dgs_cons (dg_name 5 nd) (dgs_cons (dg_name 6 nd) dgs_nil))), ?_⟩
      walk_at "env"
      refine ws_cons (ws_set 7 nd (ED.eq (ed_ifv (td_truthO 4 rfl) (fun hc3 => ed_non) (fun hc3 => (by rcases Classical.em (i0 < N.length) with hc | hc; exact (ED.eq (ed_lendN 3 rfl (by rfl) (ed_call G_name_in_q (hr.mono (by decide)) (by rfl) (ad_cons (ED.eq (ed_var 6 rfl) (show D.lst ((tWd N V i0).map D.str) = D.lst ((wQ (N.getD i0 nm0)).map D.str) by rw [show tWd N V i0 = wQ (N.getD i0 nm0) from if_pos hc])) (ad_cons (ed_var 2 rfl) (ad_cons (ed_var 3 rfl) ad_nil))) (.mk n (N.take i0) (N.getD i0 nm0) (name_new t asc hc).1 (t.ok.nm _ (name_new t asc hc).2.2).1 t.ok.nn.2 (t.ok.nm _ (name_new t asc hc).2.2).2 (name_new t asc hc).2.1 (by rw [List.length_take]; omega)))) (show _ = pN N i0 from (if_pos hc).symm)); exact (ED.eq (ed_lendN 3 rfl (by rfl) (ed_call G_name_in_v (hr.mono (by decide)) (by rfl) (ad_cons (ED.eq (ed_var 6 rfl) (show D.lst ((tWd N V i0).map D.str) = D.lst ((wV (V.getD (i0 - N.length) dev0)).map D.str) by rw [show tWd N V i0 = wV (V.getD (i0 - N.length) dev0) from if_neg hc])) (ad_cons (ed_var 2 rfl) (ad_cons (ed_var 3 rfl) ad_nil))) (.mk n (N.take i0) (V.getD (i0 - N.length) dev0) (t.v (getD_inV (by omega)))))) (show _ = pN N i0 from (if_neg hc).symm))))) (show _ = (pN N i0) from by exact nm_if rfl)) ?_)
      walk_at "env"
      refine ws_cons (ws_set 8 nd (ED.eq (ed_ifv (td_cmp (ed_lenO 4 rfl (by rfl) B.«len») (ed_const KC.«MOST_DEVICES» (by rfl)) (by walk_at "c2")) (fun hc4 => (by rcases Classical.em (i0 < N.length) with hc | hc; exact (ED.eq (ed_call G_device_in_q (hr.mono (by decide)) (by rfl) (ad_cons (ED.eq (ed_var 6 rfl) (show D.lst ((tWd N V i0).map D.str) = D.lst ((wQ (N.getD i0 nm0)).map D.str) by rw [show tWd N V i0 = wQ (N.getD i0 nm0) from if_pos hc])) (ad_cons (ed_var 2 rfl) ad_nil)) (.mk n (N.getD i0 nm0) (t.q (name_new t asc hc).2.2).1)) (show _ = pV N V i0 from (if_pos hc).symm)); exact (ED.eq (ed_call G_device_in_v (hr.mono (by decide)) (by rfl) (ad_cons (ED.eq (ed_var 6 rfl) (show D.lst ((tWd N V i0).map D.str) = D.lst ((wV (V.getD (i0 - N.length) dev0)).map D.str) by rw [show tWd N V i0 = wV (V.getD (i0 - N.length) dev0) from if_neg hc])) (ad_cons (ed_var 2 rfl) ad_nil)) (.mk n (V.getD (i0 - N.length) dev0) (t.v (getD_inV (by omega))) (dev_ok (t.ok.dv _ (getD_inV (by omega)))))) (show _ = pV N V i0 from (if_neg hc).symm)))) (fun hc4 => ed_non)) (show _ = (pV N V i0) from by exact if_pos (decide_eq_true (by rw [List.length_map, List.length_take]; omega)))) ?_)
      walk_at "env"
      refine ws_cons (ws_if (td_cmp (ed_var 7 rfl) ed_non (by walk_at "c2")) (fun hc5 => ?_) (fun hc5 => ?_))
      · skip
        obtain ⟨s1, s2⟩ := st_nm (V := V) (pN_some hc5)
        refine ws_cons (ws_append 3 rfl (ed_var 7 rfl) (by simp only [List.length_map, List.length_take]; rw [sizeLine_eq]; omega) ?_ (fun h => ps_expr (pe_bm PySem.F.plainAttrs_list PySem.F.slot_list_append PySem.F.type_list_append mt_append (pv 3) h)))
        walk_at "env"
        refine ws_nil ?_
        refine ws_nil ?_
        refine ⟨?_, True.intro⟩
        rw [s1, s2]
        rfl
      · skip
        have hcn := pN_none hc5
        refine ws_cons (ws_if (td_cmp (ed_var 8 rfl) ed_non (by walk_at "c2")) (fun hc6 => ?_) (fun hc6 => ?_))
        · skip
          obtain ⟨s1, s2⟩ := st_dv (V := V) hcn hi0
          refine ws_cons (ws_append 4 rfl (ed_var 8 rfl) (by simp only [List.length_map, List.length_take]; rw [sizeLine_eq]; omega) ?_ (fun h => ps_expr (pe_bm PySem.F.plainAttrs_list PySem.F.slot_list_append PySem.F.type_list_append mt_append (pv 4) h)))
          walk_at "env"
          refine ws_nil ?_
          refine ws_nil ?_
          refine ws_nil ?_
          refine ⟨?_, True.intro⟩
          rw [s1, s2]
          rfl
        · skip
          exact (pV_none hcn hc6).elim
    · intro u0 hP0
      walk_at "env"
      rw [List.length_range, show N.length + V.length - N.length = V.length by omega, List.take_length, List.take_of_length_le (by omega)]
      refine ws_share 3 rfl ?_
      walk_at "env"
      refine ws_share 4 rfl ?_
      walk_at "env"
      refine ws_cons (ws_ret (ED.eq (ed_own (eo_make G_Circuit_init (hr.mono (by decide)) (by rfl) (ad_cons (ed_var 2 rfl) (ad_cons (ed_var 3 rfl) (ad_cons (ed_var 4 rfl) ad_nil))) (by exact .mk _ N V _ _ (.lst _) (.lst _) t.ok))) ?_) (Or.inl rfl))
      rfl
theorem okX_parse_circuit {f : Addr} {fd : FuncData} (F : Fun K "parse_circuit" "parse_circuit" s_parse_circuit f fd) (B : Bt mg) (KC : Kt K mg) (KL : Lt K mg) (XF : Xt K mg) (G_device_in_q : Fn P w K mg base "device_in" 4 R_device_in_q) (G_device_in_v : Fn P w K mg base "device_in" 5 R_device_in_v) (G_device_in_x : Fn P w K mg base "device_in" 3 R_device_in_x) (G_name_in_q : Fn P w K mg base "name_in" 4 R_name_in_q) (G_name_in_v : Fn P w K mg base "name_in" 5 R_name_in_v) (G_name_in_x : Fn P w K mg base "name_in" 3 R_name_in_x) (G_net_count_in_v : Fn P w K mg base "net_count_in" 4 R_net_count_in_v) (G_net_count_in_x : Fn P w K mg base "net_count_in" 3 R_net_count_in_x) (GE_InvalidText : FnEr P w K mg base "InvalidText" ["line"] 1 R_E_InvalidText) :
    FnOk P w K mg base (L2N.CX P w) 6 f fd ["text"] (spXG K RX_parse_circuit) := by
  refine fn_okXG (k := 5) F sc_parse_circuit (fun ds c h => by cases h; rfl) fun ds cn hR cdv A outer s H E hr => ?_
  have nd := sc_parse_circuit.nd
  have hu := hr.units
  rcases hR with ⟨W, k, hP⟩
  have hok := hP.ok
  have hks := hP.small
  refine ⟨nosE 10, ?_⟩
  walk_at "en"
  refine xg_cons (ws_setMap 1 [("line", 9)] (W) (fun ws : List Str => D.str (lnW ws)) (fun ws : List Str => D.lst (ws.map D.str)) rfl nd (blkOk_by (N := ["text", "lines", "net_count", "names", "devices", "number", "words", "name", "device", "line"]) (sc := defScope s_parse_circuit) (by decide +kernel)) (id_list (ed_lst (eo_split (ed_var 0 rfl) ed_str (by decide +kernel) (by have := txW_len hok.2.1 hok.2.2; rw [sizeLine_eq]; omega)))) (by rw [txW_split hok.1 hok.2.1, List.map_map]; rfl) (fun ws hxm => by have hw := hok.2.1 ws hxm; exact ⟨_, by rfl, fun _ _ _ _ _ => ⟨(dg_name 9 nd), tds_nil, (ED.eq (ed_lst (eo_split (ed_var 9 rfl) ed_str (by decide +kernel) (by have := hw.len; rw [sizeLine_eq]; omega))) (show _ = D.lst (ws.map D.str) by rw [ln_split hw.ne hw.ok]))⟩⟩) (by rw [sizeLine_eq]; have := hok.2.2; omega) ?_)
  refine xg_share 1 rfl ?_
  walk_at "env"
  rcases hP with ⟨w0, W9, hF, hw9, hl9⟩ | ⟨n, N, V, ww, rr, x⟩
  · skip
    refine xg_cons (ws_set 2 nd (ed_call G_net_count_in_x (hr.mono (by decide)) (by rfl) (ad_cons (ED.eq (ed_ix (ed_var 1 rfl) ed_int IX.l0) (show _ = D.lst (w0.map D.str) from rfl)) ad_nil) (.mk w0 hF (hw9 w0 List.mem_cons_self))) ?_)
    walk_at "env"
    refine xg_ifr (td_cmp (ed_var 2 rfl) ed_non (by walk_at "c2")) (fun hc2 => ?_) (fun hc2 => ?_)
    · skip
      clear hc2
      exact xg_no (xg_head (xg_raiseF GE_InvalidText (hr.mono (by decide)) (by rfl) (ad_cons ed_int ad_nil) (by exact .mk _ (sm_small hks))))
    · skip
      cases hc2
  · skip
    have t := x.t
    have asc := x.asc
    have hnl := t.ok.nl
    have hvl := t.ok.vl
    refine xg_cons (ws_set 2 nd (ed_call G_net_count_in_v (hr.mono (by decide)) (by rfl) (ad_cons (ED.eq (ed_ix (ed_var 1 rfl) ed_int IX.l0) (show _ = D.lst ((wN n).map D.str) from rfl)) ad_nil) (.mk n t.ok.nn)) ?_)
    walk_at "env"
    refine xg_ifr (td_cmp (ed_var 2 rfl) ed_non (by walk_at "c2")) (fun hc3 => ?_) (fun hc3 => ?_)
    · skip
      cases hc3
    · skip
      clear hc3
      refine xg_cons (ws_setO 3 nd (eo_lst ad_nil) ?_)
      walk_at "env"
      refine xg_cons (ws_setO 4 nd (eo_lst ad_nil) ?_)
      walk_at "env"
      refine xg_head (xg_forU (List.range (tlX N V ww rr).length) (fun (i : Nat) => D.tup [.int (((2 : Nat) : Int) + (i : Int)), .lst (((tlX N V ww rr).getD i []).map D.str)]) rfl (id_enumS (k := 2) (by rfl) B.«enumerate» (ed_lst (eo_slice (ed_var 1 rfl) (some_part ed_int) no_part))) (by exact txW_enum _ _) (U := Sl × Sl × Sl × Sl) (fun i u => [(3, .ow (.lst ((N.take i).map nmE))), (4, .ow (.lst ((V.take (i - N.length)).map Dev.e))), (5, u.1), (6, u.2.1), (7, u.2.2.1), (8, u.2.2.2)]) (fun r => (r.getD 5 .no, r.getD 6 .no, r.getD 7 .no, r.getD 8 .no)) ((N.length + V.length)) (by rw [List.getElem?_range (by rw [tlX_len]; omega)]) (by simp; rfl) ?_ ?_ (by first | exact passes_of rfl | assumption))
      · intro i0 t9 u0 hlt0 hx0
        obtain rfl : i0 = t9 := by
          obtain ⟨hl9, he9⟩ := List.getElem?_eq_some_iff.mp hx0
          rw [List.getElem_range] at he9; exact he9
        have hi0 := hlt0
        refine ⟨_, _, (dg_tup rfl (dgs_cons (dg_name 5 nd) (dgs_cons (dg_name 6 nd) dgs_nil))), ?_⟩
        walk_at "env"
        refine ws_cons (ws_set 7 nd (ED.eq (ed_ifv (td_truthO 4 rfl) (fun hc4 => ed_non) (fun hc4 => (by rcases Classical.em (i0 < N.length) with hc | hc; exact (ED.eq (ed_lendN 3 rfl (by rfl) (ed_call G_name_in_q (hr.mono (by decide)) (by rfl) (ad_cons (ED.eq (ed_var 6 rfl) (show D.lst (((tlX N V ww rr).getD i0 []).map D.str) = D.lst ((wQ (N.getD i0 nm0)).map D.str) by rw [tlX_at hi0, show tWd N V i0 = wQ (N.getD i0 nm0) from if_pos hc])) (ad_cons (ed_var 2 rfl) (ad_cons (ed_var 3 rfl) ad_nil))) (.mk n (N.take i0) (N.getD i0 nm0) (name_new t asc hc).1 (t.ok.nm _ (name_new t asc hc).2.2).1 t.ok.nn.2 (t.ok.nm _ (name_new t asc hc).2.2).2 (name_new t asc hc).2.1 (by rw [List.length_take]; omega)))) (show _ = pN N i0 from (if_pos hc).symm)); exact (ED.eq (ed_lendN 3 rfl (by rfl) (ed_call G_name_in_v (hr.mono (by decide)) (by rfl) (ad_cons (ED.eq (ed_var 6 rfl) (show D.lst (((tlX N V ww rr).getD i0 []).map D.str) = D.lst ((wV (V.getD (i0 - N.length) dev0)).map D.str) by rw [tlX_at hi0, show tWd N V i0 = wV (V.getD (i0 - N.length) dev0) from if_neg hc])) (ad_cons (ed_var 2 rfl) (ad_cons (ed_var 3 rfl) ad_nil))) (.mk n (N.take i0) (V.getD (i0 - N.length) dev0) (t.v (getD_inV (by omega)))))) (show _ = pN N i0 from (if_neg hc).symm))))) (show _ = (pN N i0) from by exact nm_if rfl)) ?_)
        walk_at "env"
        refine ws_cons (ws_set 8 nd (ED.eq (ed_ifv (td_cmp (ed_lenO 4 rfl (by rfl) B.«len») (ed_const KC.«MOST_DEVICES» (by rfl)) (by walk_at "c2")) (fun hc5 => (by rcases Classical.em (i0 < N.length) with hc | hc; exact (ED.eq (ed_call G_device_in_q (hr.mono (by decide)) (by rfl) (ad_cons (ED.eq (ed_var 6 rfl) (show D.lst (((tlX N V ww rr).getD i0 []).map D.str) = D.lst ((wQ (N.getD i0 nm0)).map D.str) by rw [tlX_at hi0, show tWd N V i0 = wQ (N.getD i0 nm0) from if_pos hc])) (ad_cons (ed_var 2 rfl) ad_nil)) (.mk n (N.getD i0 nm0) (t.q (name_new t asc hc).2.2).1)) (show _ = pV N V i0 from (if_pos hc).symm)); exact (ED.eq (ed_call G_device_in_v (hr.mono (by decide)) (by rfl) (ad_cons (ED.eq (ed_var 6 rfl) (show D.lst (((tlX N V ww rr).getD i0 []).map D.str) = D.lst ((wV (V.getD (i0 - N.length) dev0)).map D.str) by rw [tlX_at hi0, show tWd N V i0 = wV (V.getD (i0 - N.length) dev0) from if_neg hc])) (ad_cons (ed_var 2 rfl) ad_nil)) (.mk n (V.getD (i0 - N.length) dev0) (t.v (getD_inV (by omega))) (dev_ok (t.ok.dv _ (getD_inV (by omega)))))) (show _ = pV N V i0 from (if_neg hc).symm)))) (fun hc5 => ed_non)) (show _ = (pV N V i0) from by exact if_pos (decide_eq_true (by rw [List.length_map, List.length_take]; omega)))) ?_)
        walk_at "env"
        refine ws_cons (ws_if (td_cmp (ed_var 7 rfl) ed_non (by walk_at "c2")) (fun hc6 => ?_) (fun hc6 => ?_))
        · skip
          obtain ⟨s1, s2⟩ := st_nm (V := V) (pN_some hc6)
          refine ws_cons (ws_append 3 rfl (ed_var 7 rfl) (by simp only [List.length_map, List.length_take]; rw [sizeLine_eq]; omega) ?_ (fun h => ps_expr (pe_bm PySem.F.plainAttrs_list PySem.F.slot_list_append PySem.F.type_list_append mt_append (pv 3) h)))
          walk_at "env"
          refine ws_nil ?_
          refine ws_nil ?_
          rw [s1, s2]
          rfl
        · skip
          have hcn := pN_none hc6
          refine ws_cons (ws_if (td_cmp (ed_var 8 rfl) ed_non (by walk_at "c2")) (fun hc7 => ?_) (fun hc7 => ?_))
          · skip
            obtain ⟨s1, s2⟩ := st_dv (V := V) hcn hi0
            refine ws_cons (ws_append 4 rfl (ed_var 8 rfl) (by simp only [List.length_map, List.length_take]; rw [sizeLine_eq]; omega) ?_ (fun h => ps_expr (pe_bm PySem.F.plainAttrs_list PySem.F.slot_list_append PySem.F.type_list_append mt_append (pv 4) h)))
            walk_at "env"
            refine ws_nil ?_
            refine ws_nil ?_
            refine ws_nil ?_
            rw [s1, s2]
            rfl
          · skip
            exact (pV_none hcn hc7).elim
      · intro u0
        refine ⟨_, _, (dg_tup rfl (dgs_cons (dg_name 5 nd) (dgs_cons (dg_name 6 nd) dgs_nil))), ?_⟩
        walk_at "env"
        refine xg_cons (ws_set 7 nd (ED.eq (d' := .non) (ed_ifv (td_truthO 4 rfl) (fun _ => ed_non) (fun h9 => ed_lendN 3 rfl (by rfl) (ed_call G_name_in_x (hr.mono (by decide)) (by rfl) (ad_cons (ED.eq (ed_var 6 rfl) (show D.lst (((tlX N V ww rr).getD (N.length + V.length) []).map D.str) = D.lst (ww.map D.str) by rw [tlX_end])) (ad_cons (ed_var 2 rfl) (ad_cons (ED.eq (ed_var 3 rfl) (show D.lst ((N.take (N.length + V.length)).map nmE) = D.lst (N.map nmE) by rw [List.take_of_length_le (by omega)])) ad_nil))) (.mk n N ww (x.bad.nm (nilV h9 (by omega))) x.w (by omega))))) (by split <;> rfl)) ?_)
        walk_at "env"
        refine xg_cons (ws_set 8 nd (ED.eq (d' := .non) (ed_ifv (td_cmp (ed_lenO 4 rfl (by rfl) B.«len») (ed_const KC.«MOST_DEVICES» (by rfl)) c2_lt (by rfl)) (fun h9 => ed_call G_device_in_x (hr.mono (by decide)) (by rfl) (ad_cons (ED.eq (ed_var 6 rfl) (show D.lst (((tlX N V ww rr).getD (N.length + V.length) []).map D.str) = D.lst (ww.map D.str) by rw [tlX_end])) (ad_cons (ed_var 2 rfl) ad_nil)) (.mk n ww (x.bad.dv (by rw [List.length_map, List.length_take, decide_eq_true_iff] at h9; omega)) x.w)) (fun _ => ed_non)) (by split <;> rfl)) ?_)
        walk_at "env"
        refine xg_ife (td_cmp (ed_var 7 rfl) ed_non (by walk_at "c2")) (fun hc8 => ?_) (fun hc8 => ?_)
        · skip
          cases hc8
        · skip
          clear hc8
          refine xg_ife (td_cmp (ed_var 8 rfl) ed_non (by walk_at "c2")) (fun hc9 => ?_) (fun hc9 => ?_)
          · skip
            cases hc9
          · skip
            clear hc9
            exact xg_no (xg_head (xg_raiseF GE_InvalidText (hr.mono (by decide)) (by rfl) (ad_cons (ed_var 5 rfl) ad_nil) (by exact .mk _ (sm_small hks))))
abbrev s_law_cell : Stmt := top 26
theorem sc_law_cell : FnScope ["script", "k"] ["script", "k"] (defScope s_law_cell) := ⟨rfl, rfl, rfl, by decide +kernel, rfl, by decide +kernel, by decide +kernel⟩
theorem ok_law_cell {f : Addr} {fd : FuncData} (F : Fun K "_law_cell" "_law_cell" s_law_cell f fd) (B : Bt mg) (KC : Kt K mg) (KL : Lt K mg) (XF : Xt K mg)  :
    FnOk P w K mg base CX0 1 f fd ["script", "k"] (spR K R_law_cell) := by
  refine fn_ok (k := 0) F sc_law_cell (fun ds d h => by cases h; rfl) fun ds d hR cdv A outer s H E hr => ?_
  have nd := sc_law_cell.nd
  have hu := hr.units
  rcases hR with ⟨ns, k, h0⟩
  walk_at "en"
  refine ws_cons (ws_if (td_cmp (ed_var 1 rfl) (ed_callB (id := "len") (by rfl) B.«len» bb_len (ad_cons (ed_var 0 rfl) ad_nil) (by walk_at "bc")) (by walk_at "c2")) (fun hc1 => ?_) (fun hc1 => ?_))
  · skip
    simp only [decide_eq_true_eq, List.length_map] at hc1
    refine ws_cons (ws_ret (ED.eq (ed_ix (ed_var 0 rfl) (ed_var 1 rfl) (IX.l (at_ints (k := k.toNat) (x := cellAt ns k) (by omega) (by unfold cellAt; simp [show k.toNat < ns.length by omega])))) ?_) (Or.inl rfl))
    rfl
  · skip
    simp only [decide_eq_false_iff_not, List.length_map] at hc1
    refine ws_nil ?_
    refine ws_cons (ws_ret (ED.eq ed_int ?_) (Or.inl rfl))
    unfold cellAt; rw [List.getD_eq_getElem?_getD, List.getElem?_eq_none (by omega)]; rfl
abbrev s_law_draws : Stmt := top 27
theorem sc_law_draws : FnScope ["cell", "count", "rows", "left", "k", "mixed"] ["cell", "count"] (defScope s_law_draws) := ⟨rfl, rfl, rfl, by decide +kernel, rfl, by decide +kernel, by decide +kernel⟩
theorem ok_law_draws {f : Addr} {fd : FuncData} (F : Fun K "_law_draws" "_law_draws" s_law_draws f fd) (B : Bt mg) (KC : Kt K mg) (KL : Lt K mg) (XF : Xt K mg)  :
    FnOk P w K mg base CX0 1 f fd ["cell", "count"] (spR K R_law_draws) := by
  refine fn_ok (k := 0) F sc_law_draws (fun ds d h => by cases h; rfl) fun ds d hR cdv A outer s H E hr => ?_
  have nd := sc_law_draws.nd
  have hu := hr.units
  rcases hR with ⟨c, n, h0, h1⟩
  walk_at "en"
  refine ws_cons (ws_setO 2 nd (eo_lst ad_nil) ?_)
  walk_at "env"
  refine ws_cons (ws_set 3 nd (ed_var 0 rfl) ?_)
  walk_at "env"
  refine ws_cons (ws_forU (List.range n.toNat) (fun (i : Nat) => D.int (i : Int)) rfl (id_range1 (by rfl) B.«range» (ed_var 1 rfl) (by walk_at "side")) (by exact rngD0 _) (U := Sl × Sl) (fun i u => [(2, .ow (.lst ((drawn c i).1.map D.int))), (3, .sh (.int (drawn c i).2)), (4, u.1), (5, u.2)]) (fun r => (r.getD 4 .no, r.getD 5 .no)) (fun _ => True) (rfl) (True.intro) ?_ ?_)
  · intro i0 t u0 hx0 hP0
    obtain rfl : i0 = t := by
      obtain ⟨hl, he⟩ := List.getElem?_eq_some_iff.mp hx0
      rw [List.getElem_range] at he; exact he
    refine ⟨_, _, (dg_name 4 nd), ?_⟩
    walk_at "env"
    refine ws_cons (ws_if (td_tw (tw_and (td_cmp (ed_var 0 rfl) (ed_bin ed_int ed_int (b2_powL (n := 1000000000000000000) ⟨by decide, by decide, by decide⟩ (by decide))) (by walk_at "c2")) (fun hb2 => (tw_and1 (td_cmp (ed_var 3 rfl) ed_int (by walk_at "c2")))))) (fun hc1 => ?_) (fun hc1 => ?_))
    · skip
      simp only [Bool.and_eq_true, decide_eq_true_eq] at hc1
      have e : drawn c (i0 + 1) = ((drawn c i0).1 ++ [(drawn c i0).2 % 4096], (drawn c i0).2 / 4096) := by
        rw [drawn_succ]; unfold drawStep; rw [if_pos hc1]
      refine ws_cons (ws_append 2 rfl (ed_bin (ed_callT (T := "int") (by rfl) B.«int» bb_int (ad_cons (ed_var 3 rfl) ad_nil) (by walk_at "bc")) ed_int (by walk_at "b2")) (by rw [List.length_map, (draws_spec c i0).1, sizeLine_eq]; have := (List.getElem?_eq_some_iff.mp hx0).1; rw [List.length_range] at this; omega) ?_ (fun h => ps_expr (pe_bm PySem.F.plainAttrs_list PySem.F.slot_list_append PySem.F.type_list_append mt_append (pv 2) h)))
      walk_at "env"
      refine ws_cons (ws_set 3 nd (ed_bin (ed_var 3 rfl) ed_int (by walk_at "b2")) ?_)
      walk_at "env"
      refine ws_nil ?_
      refine ws_nil ?_
      refine ⟨?_, True.intro⟩
      rw [e, List.map_append]
      rfl
    · skip
      have e : drawn c (i0 + 1) = ((drawn c i0).1 ++ [mix3 c i0 / 7 % 4096], (drawn c i0).2) := by
        rw [drawn_succ]; unfold drawStep; rw [if_neg]; intro z; rw [decide_eq_true z.1, decide_eq_true z.2] at hc1; cases hc1
      refine ws_cons (ws_set 5 nd (ed_bin (ed_callT (T := "int") (by rfl) B.«int» bb_int (ad_cons (ed_bin (ed_bin (ed_var 0 rfl) ed_int (by walk_at "b2")) (ed_bin (ed_bin (ed_var 4 rfl) ed_int (by walk_at "b2")) ed_int (by walk_at "b2")) (by walk_at "b2")) ad_nil) (by walk_at "bc")) ed_int (by walk_at "b2")) ?_)
      walk_at "env"
      refine ws_cons (ws_set 5 nd (ed_bin (ed_callT (T := "int") (by rfl) B.«int» bb_int (ad_cons (ed_bin (ed_bin (ed_bin (ed_var 5 rfl) (ed_var 5 rfl) (by walk_at "b2")) (ed_bin (ed_var 5 rfl) ed_int (by walk_at "b2")) (by walk_at "b2")) (ed_bin (ed_var 4 rfl) ed_int (by walk_at "b2")) (by walk_at "b2")) ad_nil) (by walk_at "bc")) ed_int (by walk_at "b2")) ?_)
      walk_at "env"
      refine ws_cons (ws_set 5 nd (ed_bin (ed_callT (T := "int") (by rfl) B.«int» bb_int (ad_cons (ed_bin (ed_bin (ed_bin (ed_var 5 rfl) (ed_var 5 rfl) (by walk_at "b2")) (ed_var 0 rfl) (by walk_at "b2")) (ed_bin ed_int (ed_var 4 rfl) (by walk_at "b2")) (by walk_at "b2")) ad_nil) (by walk_at "bc")) ed_int (by walk_at "b2")) ?_)
      walk_at "env"
      refine ws_cons (ws_append 2 rfl (ed_bin (ed_bin (ed_var 5 rfl) ed_int (by walk_at "b2")) ed_int (by walk_at "b2")) (by rw [List.length_map, (draws_spec c i0).1, sizeLine_eq]; have := (List.getElem?_eq_some_iff.mp hx0).1; rw [List.length_range] at this; omega) ?_ (fun h => ps_expr (pe_bm PySem.F.plainAttrs_list PySem.F.slot_list_append PySem.F.type_list_append mt_append (pv 2) h)))
      walk_at "env"
      refine ws_nil ?_
      refine ws_nil ?_
      refine ⟨?_, True.intro⟩
      rw [e, List.map_append]
      rfl
  · intro u0 hP0
    walk_at "env"
    rw [List.length_range]
    refine ws_share 2 rfl ?_
    refine ws_cons (ws_ret (ED.eq (ed_var 2 rfl) ?_) (Or.inl rfl))
    rfl
abbrev s_law_name : Stmt := top 28
theorem sc_law_name : FnScope ["draw", "letters", "tail"] ["draw"] (defScope s_law_name) := ⟨rfl, rfl, rfl, by decide +kernel, rfl, by decide +kernel, by decide +kernel⟩
theorem ok_law_name {f : Addr} {fd : FuncData} (F : Fun K "_law_name" "_law_name" s_law_name f fd) (B : Bt mg) (KC : Kt K mg) (KL : Lt K mg) (XF : Xt K mg)  :
    FnOk P w K mg base CX0 1 f fd ["draw"] (spR K R_law_name) := by
  refine fn_ok (k := 0) F sc_law_name (fun ds d h => by cases h; rfl) fun ds d hR cdv A outer s H E hr => ?_
  have nd := sc_law_name.nd
  have hu := hr.units
  rcases hR with ⟨d, hd⟩
  walk_at "en"
  refine ws_cons (ws_set 1 nd ed_str ?_)
  walk_at "env"
  refine ws_cons (ws_setO 2 nd (eo_lst (ad_cons ed_str (ad_cons ed_str (ad_cons ed_str (ad_cons ed_str (ad_cons ed_str (ad_cons ed_str ad_nil))))))) ?_)
  refine ws_share 2 rfl ?_
  walk_at "env"
  refine ws_cons (ws_ret (ED.eq (ed_bin (ed_ixS (ed_var 1 rfl) (ed_bin (ed_var 0 rfl) ed_int (by walk_at "b2")) (by decide +kernel) (at_ltr (by omega) (by omega))) (ed_ix (ed_var 2 rfl) (ed_bin (ed_bin (ed_var 0 rfl) ed_int (by walk_at "b2")) ed_int (by walk_at "b2")) (.l (at_tls (by omega) (by omega)))) (b2_addS (by have := tls_len (d / 26 % 6).toNat; rw [sizeLine_eq]; show 1 + _ ≤ _; omega))) ?_) (Or.inl rfl))
  rfl
abbrev s_law_qbad_integer : Stmt := top 29
theorem sc_law_qbad_integer : FnScope ["draw"] ["draw"] (defScope s_law_qbad_integer) := ⟨rfl, rfl, rfl, by decide +kernel, rfl, by decide +kernel, by decide +kernel⟩
theorem ok_law_qbad_integer {f : Addr} {fd : FuncData} (F : Fun K "_law_qbad_integer" "_law_qbad_integer" s_law_qbad_integer f fd) (B : Bt mg) (KC : Kt K mg) (KL : Lt K mg) (XF : Xt K mg)  :
    FnOk P w K mg base CX0 1 f fd ["draw"] (spR K R_law_qbad_integer) := by
  refine fn_ok (k := 0) F sc_law_qbad_integer (fun ds d h => by cases h; rfl) fun ds d hR cdv A outer s H E hr => ?_
  have nd := sc_law_qbad_integer.nd
  have hu := hr.units
  rcases hR with ⟨d, hd⟩
  walk_at "en"
  refine ws_cons (ws_ret (ED.eq (ED.eq (ed_ix (ED.eq (ed_lst (eo_lst (ad_cons ed_str (ad_cons ed_str (ad_cons ed_str (ad_cons ed_str (ad_cons ed_str (ad_cons ed_str (ad_cons (ed_bin ed_str ed_int (b2_mulS (n := 31) (by decide) (by decide) (by decide +kernel) (by decide +kernel))) (ad_cons ed_str (ad_cons ed_str (ad_cons ed_str (ad_cons (ed_bin ed_str (ed_bin ed_str ed_int (b2_mulS (n := 31) (by decide) (by decide) (by decide +kernel) (by decide +kernel))) (b2_addS (by rw [sRep_len, sizeLine_eq]; decide +kernel))) (ad_cons ed_str ad_nil)))))))))))))) (show _ = D.lst (badIL.map .str) from rfl)) (ed_bin (ed_var 0 rfl) ed_int (by walk_at "b2")) (.l (at_getI (xs := badIL) (f := D.str) (i := d % 12) (a := "") (by show _ ∧ _ < (12 : Int); omega)))) (show _ = D.str (badIw d) from rfl)) ?_) (Or.inl rfl))
  rfl
abbrev s_law_qbad_name : Stmt := top 30
theorem sc_law_qbad_name : FnScope ["draw"] ["draw"] (defScope s_law_qbad_name) := ⟨rfl, rfl, rfl, by decide +kernel, rfl, by decide +kernel, by decide +kernel⟩
theorem ok_law_qbad_name {f : Addr} {fd : FuncData} (F : Fun K "_law_qbad_name" "_law_qbad_name" s_law_qbad_name f fd) (B : Bt mg) (KC : Kt K mg) (KL : Lt K mg) (XF : Xt K mg)  :
    FnOk P w K mg base CX0 1 f fd ["draw"] (spR K R_law_qbad_name) := by
  refine fn_ok (k := 0) F sc_law_qbad_name (fun ds d h => by cases h; rfl) fun ds d hR cdv A outer s H E hr => ?_
  have nd := sc_law_qbad_name.nd
  have hu := hr.units
  rcases hR with ⟨d, hd⟩
  walk_at "en"
  refine ws_cons (ws_ret (ED.eq (ED.eq (ed_ix (ED.eq (ed_lst (eo_lst (ad_cons ed_str (ad_cons ed_str (ad_cons ed_str (ad_cons ed_str (ad_cons ed_str (ad_cons ed_str (ad_cons ed_str (ad_cons ed_str ad_nil)))))))))) (show _ = D.lst (badNm.map .str) from rfl)) (ed_bin (ed_var 0 rfl) ed_int (by walk_at "b2")) (.l (at_getI (xs := badNm) (f := D.str) (i := d % 8) (a := "") (by show _ ∧ _ < (8 : Int); omega)))) (show _ = D.str (badAt d) from rfl)) ?_) (Or.inl rfl))
  rfl
abbrev s_law_qcircuit : Stmt := top 31
theorem sc_law_qcircuit : FnScope ["cell", "nets", "most", "draws", "count", "names", "net", "devices", "k", "row", "ends"] ["cell", "nets", "most"] (defScope s_law_qcircuit) := ⟨rfl, rfl, rfl, by decide +kernel, rfl, by decide +kernel, by decide +kernel⟩
theorem ok_law_qcircuit {f : Addr} {fd : FuncData} (F : Fun K "_law_qcircuit" "_law_qcircuit" s_law_qcircuit f fd) (B : Bt mg) (KC : Kt K mg) (KL : Lt K mg) (XF : Xt K mg) (G_law_draws : Fn P w K mg base "_law_draws" 1 R_law_draws) (G_law_name : Fn P w K mg base "_law_name" 1 R_law_name) :
    FnOk P w K mg base CX0 2 f fd ["cell", "nets", "most"] (spR K R_law_qcircuit) := by
  refine fn_ok (k := 1) F sc_law_qcircuit (fun ds d h => by cases h; rfl) fun ds d hR cdv A outer s H E hr => ?_
  have nd := sc_law_qcircuit.nd
  have hu := hr.units
  rcases hR with ⟨c, nets, most, h1, h2⟩
  have hcn := qCnt_lo (c := c) (most := most) h1.1
  have hqm := qm_le c nets most h2.1
  walk_at "en"
  refine ws_cons (ws_set 3 nd (ed_call G_law_draws (hr.mono (by decide)) (by rfl) (ad_cons (ed_var 0 rfl) (ad_cons (ed_bin (ed_bin (ed_bin ed_int (ed_var 2 rfl) (by walk_at "b2")) (ed_var 1 rfl) (by walk_at "b2")) ed_int (by walk_at "b2")) ad_nil)) (by first | exact .mk _ _ (by decide) (by decide) | exact .mk _ _ (by omega) (by omega))) ?_)
  walk_at "env"
  refine ws_cons (ws_set 4 nd (ED.eq (ed_bin (ed_ix (ed_var 3 rfl) ed_int (by walk_at "ix")) (ed_bin (ed_var 1 rfl) ed_int (by walk_at "b2")) (by walk_at "b2")) (show _ = (D.int (qCnt c nets most)) from by rfl)) ?_)
  walk_at "env"
  refine ws_cons (ws_setO 5 nd (eo_lst ad_nil) ?_)
  walk_at "env"
  refine ws_cons (ws_forU (List.range ((qCnt c nets most).toNat)) (fun (i : Nat) => D.int (i : Int)) rfl (id_range1 (by rfl) B.«range» (ed_var 4 rfl) (by walk_at "side")) (by exact rngD0 _) (U := Sl) (fun i u => [(5, .ow (.lst ((qN c (5 * most + nets + 2) i).map nmE))), (6, u)]) (fun r => (r.getD 6 .no)) (fun _ => True) (rfl) (True.intro) ?_ ?_)
  · intro i0 t u0 hx0 hP0
    obtain rfl : i0 = t := by
      obtain ⟨hl, he⟩ := List.getElem?_eq_some_iff.mp hx0
      rw [List.getElem_range] at he; exact he
    have hi0 : i0 < (qCnt c nets most).toNat := by have := (List.getElem?_eq_some_iff.mp hx0).1; rwa [List.length_range] at this
    refine ⟨_, _, (dg_name 6 nd), ?_⟩
    walk_at "env"
    refine ws_cons (ws_if (td_cmp (ed_bin (ed_ix (ed_var 3 rfl) (ed_bin ed_int (ed_var 6 rfl) (by walk_at "b2")) (by walk_at "ix")) ed_int (by walk_at "b2")) ed_int (by walk_at "c2")) (fun hc1 => ?_) (fun hc1 => ?_))
    · skip
      have hf := of_decide_eq_true hc1
      refine ws_cons (ws_append 5 rfl (ed_tup (ad_cons (ed_var 6 rfl) (ad_cons (ed_bin (ed_bin (ed_sliceS (ed_call G_law_name (hr.mono (by decide)) (by rfl) (ad_cons (ed_bin (ed_ix (ed_var 3 rfl) (ed_bin ed_int (ed_var 6 rfl) (by walk_at "b2")) (by walk_at "ix")) ed_int (by walk_at "b2")) ad_nil) (by exact .mk _ (by have := (dr_lo c (5 * most + nets + 2) (2 + (i0 : Int))).1; omega))) (nmOf_len _) no_part (some_part ed_int)) ed_str (b2_addS (q1_len _))) (ed_callT (T := "str") (by rfl) B.«str» bb_str (ad_cons (ed_var 6 rfl) ad_nil) (bc_strI (log_small hi0 (by omega)))) (b2_addS (q2_len _ (by omega)))) ad_nil))) (by first | (have := qN_len c (5 * most + nets + 2) i0; rw [List.length_map, sizeLine_eq]; omega) | (rw [List.length_map, qV_len, sizeLine_eq]; omega)) ?_ (fun h => ps_expr (pe_bm PySem.F.plainAttrs_list PySem.F.slot_list_append PySem.F.type_list_append mt_append (pv 5) h)))
      walk_at "env"
      refine ws_nil ?_
      refine ws_nil ?_
      refine ⟨?_, True.intro⟩
      first
        | (rw [qN_yes hf, List.map_append]; rfl)
        | (rw [qN_no hf]; rfl)
    · skip
      have hf := of_decide_eq_false hc1
      refine ws_nil ?_
      refine ws_nil ?_
      refine ⟨?_, True.intro⟩
      first
        | (rw [qN_yes hf, List.map_append]; rfl)
        | (rw [qN_no hf]; rfl)
  · intro u0 hP0
    walk_at "env"
    rw [List.length_range]
    refine ws_share 5 rfl ?_
    walk_at "env"
    refine ws_cons (ws_setO 7 nd (eo_lst ad_nil) ?_)
    walk_at "env"
    refine ws_cons (ws_forU (List.range (qm c nets most)) (fun (i : Nat) => D.int (i : Int)) rfl (id_range1 (by rfl) B.«range» (ED.eq (ed_bin (ed_bin (ed_ix (ed_var 3 rfl) ed_int (by walk_at "ix")) (ed_bin (ed_var 2 rfl) ed_int (by walk_at "b2")) (by walk_at "b2")) (ed_callT (T := "int") (by rfl) B.«int» bb_int (ad_cons (ed_cmp (ed_var 4 rfl) ed_int (by walk_at "c2")) ad_nil) (bc_intB)) (b2_mul (Or.inr (by split <;> decide)))) (show _ = D.int ((qm c nets most : Nat) : Int) from congrArg D.int (qm_mul h2.1))) (by walk_at "side")) (by rw [Int.toNat_natCast]; exact rngD0 _) (U := Sl × Sl × Sl) (fun i u => [(7, .ow (.lst ((qV c (5 * most + nets + 2) nets (qCnt c nets most) i).map Dev.e))), (8, u.1), (9, u.2.1), (10, u.2.2)]) (fun r => (r.getD 8 .no, r.getD 9 .no, r.getD 10 .no)) (fun _ => True) (rfl) (True.intro) ?_ ?_)
    · intro i1 t u1 hx1 hP1
      obtain rfl : i1 = t := by
        obtain ⟨hl, he⟩ := List.getElem?_eq_some_iff.mp hx1
        rw [List.getElem_range] at he; exact he
      have hi1 : i1 < qm c nets most := by have := (List.getElem?_eq_some_iff.mp hx1).1; rwa [List.length_range] at this
      have hcp := qm_pos hi1
      refine ⟨_, _, (dg_name 8 nd), ?_⟩
      walk_at "env"
      refine ws_cons (ws_setO 9 nd (EO.eq (c' := .lst [.int (dr c (5 * most + nets + 2) ((nets + 2 + 5 * (i1 : Int)) + 0)), .int (dr c (5 * most + nets + 2) ((nets + 2 + 5 * (i1 : Int)) + 1)), .int (dr c (5 * most + nets + 2) ((nets + 2 + 5 * (i1 : Int)) + 2)), .int (dr c (5 * most + nets + 2) ((nets + 2 + 5 * (i1 : Int)) + 3)), .int (dr c (5 * most + nets + 2) ((nets + 2 + 5 * (i1 : Int)) + 4))]) (eo_slice (ed_var 3 rfl) (some_part (ed_bin (ed_bin (ed_var 1 rfl) ed_int (by walk_at "b2")) (ed_bin ed_int (ed_var 8 rfl) (by walk_at "b2")) (by walk_at "b2"))) (some_part (ed_bin (ed_bin (ed_var 1 rfl) ed_int (by walk_at "b2")) (ed_bin ed_int (ed_var 8 rfl) (by walk_at "b2")) (by walk_at "b2")))) (by rw [show nets + 7 + 5 * (i1 : Int) = (nets + 2 + 5 * (i1 : Int)) + 5 by omega, cut5 (by omega) (by omega)])) ?_)
      refine ws_share 9 rfl ?_
      walk_at "env"
      refine ws_cons (ws_setO 10 nd (eo_callB (id := "sorted") (by rfl) B.«sorted» bb_sorted (ad_cons (ed_lst (eo_lst (ad_cons (ed_bin (ed_ix (ed_var 9 rfl) ed_int (by walk_at "ix")) (ed_var 4 rfl) (by walk_at "b2")) (ad_cons (ed_bin (ed_ix (ed_var 9 rfl) ed_int (by walk_at "ix")) (ed_var 4 rfl) (by walk_at "b2")) ad_nil)))) ad_nil) bo_sorted2) ?_)
      refine ws_share 10 rfl ?_
      walk_at "env"
      refine ws_cons (ws_append 7 rfl (ed_tup (ad_cons (ed_ix (ed_lst (eo_lst (ad_cons ed_str (ad_cons ed_str ad_nil)))) (ed_bin (ed_ix (ed_var 9 rfl) ed_int (by walk_at "ix")) ed_int (by walk_at "b2")) (ix_kind _)) (ad_cons (ed_bin (ed_ix (ed_var 9 rfl) ed_int (by walk_at "ix")) (ed_var 4 rfl) (by walk_at "b2")) (ad_cons (ed_ix (ed_var 10 rfl) ed_int (by walk_at "ix")) (ad_cons (ed_ix (ed_var 10 rfl) ed_int (by walk_at "ix")) (ad_cons (ed_bin ed_int (ed_bin (ed_ix (ed_var 9 rfl) ed_int (by walk_at "ix")) ed_int (by walk_at "b2")) (by walk_at "b2")) (ad_cons (ed_bin ed_int (ed_bin (ed_bin (ed_ix (ed_var 9 rfl) ed_int (by walk_at "ix")) ed_int (by walk_at "b2")) ed_int (by walk_at "b2")) (by walk_at "b2")) ad_nil))))))) (by first | (have := qN_len c (5 * most + nets + 2) i0; rw [List.length_map, sizeLine_eq]; omega) | (rw [List.length_map, qV_len, sizeLine_eq]; omega)) ?_ (fun h => ps_expr (pe_bm PySem.F.plainAttrs_list PySem.F.slot_list_append PySem.F.type_list_append mt_append (pv 7) h)))
      walk_at "env"
      refine ws_nil ?_
      refine ⟨?_, True.intro⟩
      rw [qV_succ, List.map_append]
      rfl
    · intro u1 hP1
      walk_at "env"
      rw [List.length_range]
      refine ws_share 7 rfl ?_
      walk_at "env"
      refine ws_cons (ws_ret (ED.eq (ed_tup (ad_cons (ed_var 4 rfl) (ad_cons (ed_var 5 rfl) (ad_cons (ed_var 7 rfl) ad_nil)))) ?_) (Or.inl rfl))
      rfl
abbrev s_law_qcircuit_lines : Stmt := top 32
theorem sc_law_qcircuit_lines : FnScope ["count", "names", "devices", "lines", "device", "net", "name", "number"] ["count", "names", "devices"] (defScope s_law_qcircuit_lines) := ⟨rfl, rfl, rfl, by decide +kernel, rfl, by decide +kernel, by decide +kernel⟩
theorem ok_law_qcircuit_lines {f : Addr} {fd : FuncData} (F : Fun K "_law_qcircuit_lines" "_law_qcircuit_lines" s_law_qcircuit_lines f fd) (B : Bt mg) (KC : Kt K mg) (KL : Lt K mg) (XF : Xt K mg)  :
    FnOk P w K mg base CX0 1 f fd ["count", "names", "devices"] (spR K R_law_qcircuit_lines) := by
  refine fn_ok (k := 0) F sc_law_qcircuit_lines (fun ds d h => by cases h; rfl) fun ds d hR cdv A outer s H E hr => ?_
  have nd := sc_law_qcircuit_lines.nd
  have hu := hr.units
  rcases hR with ⟨n, N, V, t⟩
  have hnl := t.ok.nl
  have hvl := t.ok.vl
  have s0 := t.n.sm
  have k0 := s0.len
  obtain ⟨e1, e2, e3, e4⟩ := litC_len
  have l8 := lens
  walk_at "en"
  refine ws_cons (ws_setO 3 nd (EO.eq (c' := .lst ((lsC n (srtN N) (V.take 0)).map D.str)) (eo_cat (ed_lst (eo_lst (ad_cons (ED.eq (ed_bin ed_str (ed_callT (T := "str") (by rfl) B.«str» bb_str (ad_cons (ed_var 0 rfl) ad_nil) (bc_strI s0.log)) (b2_addS (by show ("nets " : Str).length + (stI n).length ≤ _; rw [e1, sizeLine_eq]; omega))) (show _ = D.str (lnW (wN n)) from congrArg D.str (ln_N n))) ad_nil))) (ed_lst (eo_map2 [("net", 5), ("name", 6)] (srtN N) (nmE) (fun q : Nm => lnW (wQ q)) (D.str) rfl nd (blkOk_by (N := ["count", "names", "devices", "lines", "device", "net", "name", "number"]) (sc := defScope s_law_qcircuit_lines) (by decide +kernel)) (id_list (ed_lst (EO.eq (c' := .lst ((srtN N).map nmE)) (eo_sortedD (bs := N) (by rfl) B.«sorted» (.lst _) (ed_var 1 rfl) (nm_sort hu)) rfl))) (rfl) (fun q hxm => by have hq := t.q hxm; have s1 := hq.1.sm; have k1 := s1.len; have k2 := nameB_len hq.2; exact ⟨_, by rfl, fun _ _ _ _ _ => ⟨(dg_tup rfl (dgs_cons (dg_name 5 nd) (dgs_cons (dg_name 6 nd) dgs_nil))), tds_nil, (ED.eq (ed_bin (ed_bin (ed_bin ed_str (ed_var 6 rfl) (b2_addS (by show ("name " : Str).length + q.2.length ≤ _; rw [e2, sizeLine_eq]; omega))) ed_str (b2_addS (by show (("name " : Str) ++ q.2).length + (" " : Str).length ≤ _; rw [app_len, e2, e4, sizeLine_eq]; omega))) (ed_callT (T := "str") (by rfl) B.«str» bb_str (ad_cons (ed_var 5 rfl) ad_nil) (bc_strI s1.log)) (b2_addS (by show (("name " : Str) ++ q.2 ++ (" " : Str)).length + (stI q.1).length ≤ _; rw [app_len, app_len, e2, e4, sizeLine_eq]; omega))) (show _ = D.str (lnW (wQ q)) from congrArg D.str (ln_Q q)))⟩⟩) (by rw [sizeLine_eq]; omega))) (by simp only [List.length_map, List.length_cons, List.length_nil]; rw [sizeLine_eq]; omega)) (by simp [lsC])) ?_)
  walk_at "env"
  refine ws_cons (ws_forU (V) (Dev.e) rfl (id_list (ed_var 2 rfl)) (by rfl) (U := Sl) (fun i u => [(3, .ow (.lst ((lsC n (srtN N) (V.take i)).map .str))), (4, u)]) (fun r => (r.getD 4 .no)) (fun _ => True) (rfl) (True.intro) ?_ ?_)
  · intro i0 v u0 hx0 hP0
    have hdv := t.v (List.mem_of_getElem? hx0)
    refine ⟨_, _, (dg_name 4 nd), ?_⟩
    walk_at "env"
    refine ws_cons (ws_append 3 rfl (ED.eq (ed_join (zs := wV v) ed_str (.lst _) (ED.eq (ed_lst (eo_cat (ed_lst (eo_lst (ad_cons ed_str (ad_cons (ed_ix (ed_var 4 rfl) ed_int (by walk_at "ix")) ad_nil)))) (ed_lst (eo_map2 [("number", 7)] (([v.g, v.a, v.b, v.w, v.l] : List Int)) (D.int) (stI) (D.str) rfl nd (blkOk_by (N := ["count", "names", "devices", "lines", "device", "net", "name", "number"]) (sc := defScope s_law_qcircuit_lines) (by decide +kernel)) (id_tup (ED.eq (ed_sliceT (ed_var 4 rfl) (some_part ed_int) no_part) (show _ = D.tup (([v.g, v.a, v.b, v.w, v.l] : List Int).map .int) from rfl))) (rfl) (fun i hxm => ⟨_, by rfl, fun _ _ _ _ _ => ⟨(dg_name 7 nd), tds_nil, (ed_callT (T := "str") (by rfl) B.«str» bb_str (ad_cons (ed_var 7 rfl) ad_nil) (bc_strI (hdv.all i hxm).sm.log))⟩⟩) (by show 5 ≤ _; rw [sizeLine_eq]; omega))) (by show 2 + 5 ≤ _; rw [sizeLine_eq]; omega))) (show _ = D.lst ((wV v).map .str) from rfl)) (by have h1 := sumL_le (k := 41) (zs := wV v) (fun w hw => (wV_ok hdv w hw).n); have h7 : (wV v).length = 7 := rfl; rw [h7] at h1 ⊢; have := l8.2.2.2.1; rw [this]; omega)) (show _ = D.str (lnW (wV v)) from rfl)) (by rw [List.length_map, lsC_len, List.length_take, sizeLine_eq]; omega) ?_ (fun h => ps_expr (pe_bm PySem.F.plainAttrs_list PySem.F.slot_list_append PySem.F.type_list_append mt_append (pv 3) h)))
    walk_at "env"
    refine ws_nil ?_
    refine ⟨?_, True.intro⟩
    rw [lsC_snoc _ _ _ hx0]
    rfl
  · intro u0 hP0
    walk_at "env"
    rw [List.take_length]
    refine ws_share 3 rfl ?_
    walk_at "env"
    refine ws_cons (ws_ret (ED.eq (ed_var 3 rfl) ?_) (Or.inl rfl))
    rfl
abbrev s_law_line : Stmt := top 33
theorem sc_law_line : FnScope ["lines", "e"] ["lines"] (defScope s_law_line) := ⟨rfl, rfl, rfl, by decide +kernel, rfl, by decide +kernel, by decide +kernel⟩
theorem ok_law_line {f : Addr} {fd : FuncData} (F : Fun K "_law_line" "_law_line" s_law_line f fd) (B : Bt mg) (KC : Kt K mg) (KL : Lt K mg) (XF : Xt K mg) (G_parse_circuit : Fn P w K mg base "parse_circuit" 6 R_parse_circuit) (GX_parse_circuit : FnXG P w K mg base "parse_circuit" 6 RX_parse_circuit) :
    FnOk P w K mg base CX0 7 f fd ["lines"] (spR K R_law_line) := by
  refine fn_ok (k := 6) F sc_law_line (fun ds d h => by cases h; rfl) fun ds d hR cdv A outer s H E hr => ?_
  have nd := sc_law_line.nd
  have hu := hr.units
  rcases hR with ⟨L, k, hL⟩
  walk_at "en"
  rcases hL with ⟨n, N, V, t, asc⟩ | ⟨W, _, hP⟩
  · skip
    refine ws_cons (ws_try0 ?_)
    refine ws_cons (ws_exprD (ed_call G_parse_circuit (hr.mono (by decide)) (by rfl) (ad_cons (ED.eq (ed_join (zs := (wsC n N V).map lnW) ed_str (.lst _) (ed_var 0 rfl) (by have := tx_room t; exact Nat.le_trans this (by omega))) (show _ = D.str (txC n N V) from rfl)) ad_nil) (by exact .mk n N V t asc)) ?_)
    refine ws_nil ?_
    refine ws_cons (ws_ret (ED.eq ed_int ?_) (Or.inl rfl))
    rfl
  · skip
    refine ws_cons (ws_tryFS (ns := ["line"]) (ds := [.int k]) 1 nd XF.«m1» (by rfl) (fun pn xe po => ?_) (fun ea eC ex eo pn ehC ehz ehf => ?_))
    · skip
      exact xg_head (xg_expr (eg_call GX_parse_circuit (hr.mono (by decide)) (by rfl) (ad_cons (ED.eq (ed_join (zs := W.map lnW) ed_str (.lst _) (ed_var 0 rfl) (by have := txW_room hP.ok.2.1 hP.ok.2.2; exact Nat.le_trans this (by omega))) (show _ = D.str (txW W) from rfl)) ad_nil) (by exact .mk W _ hP)))
    · skip
      walk_at "env"
      refine ws_cons (ws_if (td_tw (tw_and (td_truth (ed_isEF XF.«InvalidText» XF.«i1» ehC ehz ehf (by rfl) B.«isinstance» (by rfl) (ed_var 1 rfl)) rfl) (fun _ => tw_and1 (td_truth (ed_callB (id := "isinstance") (by rfl) B.«isinstance» bb_isinstance (ad_cons (ed_xfld 0 XF.«f1» ehC ehz ehf (ed_var 1 rfl)) (ad_cons (ed_ty (n := "int") (by rfl) B.«int» bb_int) ad_nil)) (bc_isi (c := "int") (by rfl) (by rfl))) rfl)))) (fun hc1 => ?_) (fun hc1 => ?_))
      · skip
        clear hc1
        refine ws_cons (ws_ret (ED.eq (ed_xfld 0 XF.«f1» ehC ehz ehf (ed_var 1 rfl)) ?_) (Or.inl rfl))
        rfl
      · skip
        exfalso; simp at hc1
abbrev s_law_wrong_line : Stmt := top 34
theorem sc_law_wrong_line : FnScope ["draw", "more", "count", "integer", "out", "lines"] ["draw", "more", "count"] (defScope s_law_wrong_line) := ⟨rfl, rfl, rfl, by decide +kernel, rfl, by decide +kernel, by decide +kernel⟩
theorem ok_law_wrong_line {f : Addr} {fd : FuncData} (F : Fun K "_law_wrong_line" "_law_wrong_line" s_law_wrong_line f fd) (B : Bt mg) (KC : Kt K mg) (KL : Lt K mg) (XF : Xt K mg) (G_law_qbad_integer : Fn P w K mg base "_law_qbad_integer" 1 R_law_qbad_integer) (G_law_qbad_name : Fn P w K mg base "_law_qbad_name" 1 R_law_qbad_name) :
    FnOk P w K mg base CX0 2 f fd ["draw", "more", "count"] (spR K R_law_wrong_line) := by
  refine fn_ok (k := 1) F sc_law_wrong_line (fun ds d h => by cases h; rfl) fun ds d hR cdv A outer s H E hr => ?_
  have nd := sc_law_wrong_line.nd
  have hu := hr.units
  rcases hR with ⟨d, m, n, hd, hm, hn⟩
  have hI : (badIw m).length ≤ 41 := (badI_no m).2.n
  have hO : (cfO m n).length ≤ 41 := (Rz.w (i := n + m % 3) ⟨by omega⟩).n
  have hB : (badAt m).length ≤ 41 := (badAt_w m).n
  have hN : (stI n).length ≤ 41 := (Rz.w (i := n) ⟨by omega⟩).n
  have hN1 : (stI (n - 1)).length ≤ 41 := (Rz.w (i := n - 1) ⟨by omega⟩).n
  have g0 : n.natAbs.log2 < 1920 := (Rz.sm (i := n) ⟨by omega⟩).log
  have g1 : (n - 1).natAbs.log2 < 1920 := (Rz.sm (i := n - 1) ⟨by omega⟩).log
  have g2 : (n + m % 3).natAbs.log2 < 1920 := (Rz.sm (i := n + m % 3) ⟨by omega⟩).log
  walk_at "en"
  refine ws_cons (ws_set 3 nd (ed_call G_law_qbad_integer (hr.mono (by decide)) (by rfl) (ad_cons (ed_var 1 rfl) ad_nil) (by exact .mk _ hm)) ?_)
  walk_at "env"
  refine ws_cons (ws_set 4 nd (ED.eq (d' := .str (cfO m n)) (ed_callT (T := "str") (by rfl) B.«str» bb_str (ad_cons (ed_bin (ed_var 2 rfl) (ed_bin (ed_var 1 rfl) ed_int (by walk_at "b2")) (by walk_at "b2")) ad_nil) (bc_strI g2)) rfl) ?_)
  walk_at "env"
  refine ws_cons (ws_setO 5 nd (eo_lst (ad_cons ed_str (ad_cons (ed_bin ed_str (ed_callT (T := "str") (by rfl) B.«str» bb_str (ad_cons (ed_var 2 rfl) ad_nil) (bc_strI g0)) (b2_addS (add_ok (show ("nets " : Str).length ≤ 100 by decide +kernel) hN))) (ad_cons ed_str (ad_cons ed_str (ad_cons ed_str (ad_cons (ed_bin ed_str (ed_var 4 rfl) (b2_addS (add_ok (show ("name a " : Str).length ≤ 100 by decide +kernel) hO))) (ad_cons ed_str (ad_cons (ed_bin ed_str (ed_var 3 rfl) (b2_addS (add_ok (show ("name a " : Str).length ≤ 100 by decide +kernel) hI))) ad_nil))))))))) ?_)
  refine ws_share 5 rfl ?_
  walk_at "env"
  refine ws_cons (ws_setO 5 nd (EO.eq (c' := .lst (((wrS m n).take 13).map .str)) (eo_cat (ed_var 5 rfl) (ed_lst (eo_lst (ad_cons (ed_bin (ed_bin (ed_bin ed_str (ed_call G_law_qbad_name (hr.mono (by decide)) (by rfl) (ad_cons (ed_var 1 rfl) ad_nil) (by exact .mk _ hm)) (b2_addS (add_ok (show ("name " : Str).length ≤ 100 by decide +kernel) hB))) ed_str (b2_addS (add_ok2 (show ("name " : Str).length ≤ 100 by decide +kernel) hB (show (" " : Str).length ≤ 100 by decide +kernel)))) (ed_callT (T := "str") (by rfl) B.«str» bb_str (ad_cons (ed_bin (ed_var 2 rfl) ed_int (by walk_at "b2")) ad_nil) (bc_strI g1)) (b2_addS (add_ok3 (show ("name " : Str).length ≤ 100 by decide +kernel) hB (show (" " : Str).length ≤ 100 by decide +kernel) hN1))) (ad_cons ed_str (ad_cons ed_str (ad_cons ed_str (ad_cons ed_str ad_nil))))))) (by simp only [List.length_map, List.length_take, List.length_cons, List.length_nil, wrS]; rw [sizeLine_eq]; decide)) rfl) ?_)
  refine ws_share 5 rfl ?_
  walk_at "env"
  refine ws_cons (ws_setO 5 nd (EO.eq (c' := .lst (((wrS m n).take 18).map .str)) (eo_cat (ed_var 5 rfl) (ed_lst (eo_lst (ad_cons ed_str (ad_cons ed_str (ad_cons ed_str (ad_cons (ed_bin (ed_bin ed_str (ed_var 4 rfl) (b2_addS (add_ok (show ("device n " : Str).length ≤ 100 by decide +kernel) hO))) ed_str (b2_addS (add_ok2 (show ("device n " : Str).length ≤ 100 by decide +kernel) hO (show (" 0 0 1 1" : Str).length ≤ 100 by decide +kernel)))) (ad_cons (ed_bin (ed_bin ed_str (ed_var 4 rfl) (b2_addS (add_ok (show ("device n 0 0 " : Str).length ≤ 100 by decide +kernel) hO))) ed_str (b2_addS (add_ok2 (show ("device n 0 0 " : Str).length ≤ 100 by decide +kernel) hO (show (" 1 1" : Str).length ≤ 100 by decide +kernel)))) ad_nil))))))) (by simp only [List.length_map, List.length_take, List.length_cons, List.length_nil, wrS]; rw [sizeLine_eq]; decide)) rfl) ?_)
  refine ws_share 5 rfl ?_
  walk_at "env"
  refine ws_cons (ws_setO 5 nd (EO.eq (c' := .lst (((wrS m n).take 23).map .str)) (eo_cat (ed_var 5 rfl) (ed_lst (eo_lst (ad_cons ed_str (ad_cons ed_str (ad_cons ed_str (ad_cons ed_str (ad_cons (ed_bin (ed_bin ed_str (ed_var 3 rfl) (b2_addS (add_ok (show ("device n 0 0 0 " : Str).length ≤ 100 by decide +kernel) hI))) ed_str (b2_addS (add_ok2 (show ("device n 0 0 0 " : Str).length ≤ 100 by decide +kernel) hI (show (" 1" : Str).length ≤ 100 by decide +kernel)))) ad_nil))))))) (by simp only [List.length_map, List.length_take, List.length_cons, List.length_nil, wrS]; rw [sizeLine_eq]; decide)) rfl) ?_)
  refine ws_share 5 rfl ?_
  walk_at "env"
  refine ws_cons (ws_setO 5 nd (EO.eq (c' := .lst (((wrS m n).take 27).map .str)) (eo_cat (ed_var 5 rfl) (ed_lst (eo_lst (ad_cons (ed_bin ed_str (ed_var 3 rfl) (b2_addS (add_ok (show ("device n 0 0 0 1 " : Str).length ≤ 100 by decide +kernel) hI))) (ad_cons (ed_bin (ed_bin ed_str (ed_var 3 rfl) (b2_addS (add_ok (show ("device n " : Str).length ≤ 100 by decide +kernel) hI))) ed_str (b2_addS (add_ok2 (show ("device n " : Str).length ≤ 100 by decide +kernel) hI (show (" 0 0 1 1" : Str).length ≤ 100 by decide +kernel)))) (ad_cons ed_str (ad_cons ed_str ad_nil)))))) (by simp only [List.length_map, List.length_take, List.length_cons, List.length_nil, wrS]; rw [sizeLine_eq]; decide)) rfl) ?_)
  refine ws_share 5 rfl ?_
  walk_at "env"
  refine ws_cons (ws_ret (ED.eq (ED.eq (ed_ix (ED.eq (d' := .lst ((wrS m n).map .str)) (ed_var 5 rfl) rfl) (ed_bin (ed_var 0 rfl) (ED.eq (ed_callB (id := "len") (by rfl) B.«len» bb_len (ad_cons (ed_var 5 rfl) ad_nil) (by walk_at "bc")) (show _ = (.int 27) from by rfl)) (by walk_at "b2")) (.l (at_getI (xs := wrS m n) (f := D.str) (i := d % 27) (a := "") (by show _ ∧ _ < (27 : Int); omega)))) (show D.str ((wrS m n).getD (d % 27).toNat "") = _ by rw [wr_str, cf_get])) ?_) (Or.inl rfl))
  rfl
abbrev s_law : Stmt := top 35
theorem sc_law : FnScope ["script", "count", "names", "devices", "lines", "draws", "k", "named", "more", "first", "many", "at", "wrong", "net"] ["script"] (defScope s_law) := ⟨rfl, rfl, rfl, by decide +kernel, rfl, by decide +kernel, by decide +kernel⟩
theorem ok_law {f : Addr} {fd : FuncData} (F : Fun K "law" "law" s_law f fd) (B : Bt mg) (KC : Kt K mg) (KL : Lt K mg) (XF : Xt K mg) (G_law_cell : Fn P w K mg base "_law_cell" 1 R_law_cell) (G_law_draws : Fn P w K mg base "_law_draws" 1 R_law_draws) (G_law_line : Fn P w K mg base "_law_line" 7 R_law_line) (G_law_qbad_integer : Fn P w K mg base "_law_qbad_integer" 1 R_law_qbad_integer) (G_law_qcircuit : Fn P w K mg base "_law_qcircuit" 2 R_law_qcircuit) (G_law_qcircuit_lines : Fn P w K mg base "_law_qcircuit_lines" 1 R_law_qcircuit_lines) (G_law_wrong_line : Fn P w K mg base "_law_wrong_line" 2 R_law_wrong_line) :
    FnOk P w K mg base CX0 8 f fd ["script"] (spR K R_law) := by
  refine fn_ok (k := 7) F sc_law (fun ds d h => by cases h; rfl) fun ds d hR cdv A outer s H E hr => ?_
  have nd := sc_law.nd
  have hu := hr.units
  rcases hR with ⟨ns, hlen⟩
  obtain ⟨n0, hn0⟩ : ∃ n, n = qCnt (cellAt ns 0) 9 6 := ⟨_, rfl⟩
  obtain ⟨N, hN⟩ : ∃ N, N = cN (cellAt ns 0) 9 6 := ⟨_, rfl⟩
  obtain ⟨V, hV⟩ : ∃ V, V = cV (cellAt ns 0) 9 6 := ⟨_, rfl⟩
  obtain ⟨n, hn⟩ : ∃ n, n = n0 + 1 := ⟨_, rfl⟩
  have hnb : 0 ≤ n0 ∧ n0 ≤ 9 := by rw [hn0]; exact qCnt_lo (by decide)
  have hn1 : 1 ≤ n ∧ n ≤ 200 := by omega
  have t : TxOk n N V := by rw [hn, hn0, hN, hV]; exact drn7 _
  have asc : N.Pairwise (fun p q => p.1 < q.1) := by rw [hN]; exact cN_asc _ _ _
  have hsr : srtN N = N := srtN_self asc
  have hNl : N.length ≤ 9 := by have := cN_len (c := cellAt ns 0) (nets := 9) (most := 6) (by decide); rw [← hN] at this; omega
  have hVl : V.length ≤ 6 := by have := cV_len (c := cellAt ns 0) (nets := 9) (most := 6) (by decide); rw [← hV] at this; omega
  have tN : TxOk n N [] := t.part (List.Sublist.refl _) (List.nil_sublist _)
  have tP : TxOk n N [pDv] := tx_p t hn1.1
  have hN1 : (stI (n - 1)).length ≤ 41 := (Rz.w (i := n - 1) ⟨by omega⟩).n
  have g1 : (n - 1).natAbs.log2 < 1920 := (Rz.sm (i := n - 1) ⟨by omega⟩).log
  obtain ⟨d14, hd14⟩ : ∃ d, d = dr (cellAt ns 1) 16 14 := ⟨_, rfl⟩
  have hd140 : 0 ≤ d14 := by rw [hd14]; exact (dr_lo _ _ _).1
  walk_at "en"
  refine ws_cons (ws_unpack (ED.eq (ed_call G_law_qcircuit (hr.mono (by decide)) (by rfl) (ad_cons (ed_call G_law_cell (hr.mono (by decide)) (by rfl) (ad_cons (ed_var 0 rfl) (ad_cons ed_int ad_nil)) (by exact .mk _ _ (by omega))) (ad_cons ed_int (ad_cons ed_int ad_nil))) (by exact .mk _ _ _ (by decide) (by decide))) (show _ = (D.tup [.int n0, .lst (N.map nmE), .lst (V.map Dev.e)]) from by rw [hn0, hN, hV])) (dg_tup rfl (dgs_cons (dg_name 1 nd) (dgs_cons (dg_name 2 nd) (dgs_cons (dg_name 3 nd) dgs_nil)))) ?_)
  walk_at "env"
  refine ws_cons (ws_set 1 nd (ED.eq (ed_bin (ed_var 1 rfl) ed_int (by walk_at "b2")) (show _ = (.int n) from by rw [hn])) ?_)
  walk_at "env"
  refine ws_cons (ws_set 4 nd (ED.eq (ed_call G_law_qcircuit_lines (hr.mono (by decide)) (by rfl) (ad_cons (ed_var 1 rfl) (ad_cons (ed_var 2 rfl) (ad_cons (ed_var 3 rfl) ad_nil))) (by exact .mk n N V (by rw [hsr]; exact t))) (show _ = (D.lst ((((wsC n N V)).map lnW).map D.str)) from by rw [hsr]; rfl)) ?_)
  walk_at "env"
  refine ws_cons (ws_if (td_tw (tw_or (td_cmp (ed_call G_law_line (hr.mono (by decide)) (by rfl) (ad_cons (ed_var 4 rfl) ad_nil) (.mk _ _ (.ok n N V t asc))) ed_int (by walk_at "c2")) (fun hb3 => (tw_or (td_cmp (ed_call G_law_line (hr.mono (by decide)) (by rfl) (ad_cons (ED.eq (d' := D.lst ((((wsC n N V) ++ ([[""]] : List (List Str))).map lnW).map D.str)) (ed_lst (eo_cat (ed_var 4 rfl) (ed_lst (eo_lst (ad_cons ed_str ad_nil))) (by simp only [List.length_map, List.length_append, List.length_take, List.length_drop, List.length_cons, List.length_nil, wsC_len7]; rw [sizeLine_eq]; omega))) (by rw [ls_app]; rfl)) ad_nil) (.mk _ _ (.bad _ _ (px_end t asc emp_ln ⟨fun _ => (emp_bad n N).1, fun _ => (emp_bad n N).2⟩)))) (ed_bin (ED.eq (ed_callB (id := "len") (by rfl) B.«len» bb_len (ad_cons (ed_var 4 rfl) ad_nil) (by walk_at "bc")) (show _ = (.int ((N.length + V.length + 1 : Nat) : Int)) from by rw [List.length_map, List.length_map, wsC_len7])) ed_int (by walk_at "b2")) (by walk_at "c2")) (fun hb2 => (tw_or1 (td_cmp (ed_call G_law_line (hr.mono (by decide)) (by rfl) (ad_cons (ED.eq (d' := D.lst (((([[""]] : List (List Str))).map lnW).map D.str)) (ed_lst (eo_lst (ad_cons ed_str ad_nil))) rfl) ad_nil) (.mk _ _ (.bad _ _ (.first [""] [] emp_fs (fun ws h => by rw [List.mem_singleton.mp h]; exact emp_ln) (by simp))))) ed_int (by walk_at "c2")))))))) (fun hc1 => ?_) (fun hc1 => ?_))
  · skip
    exfalso; simp at hc1 <;> omega
  · skip
    clear hc1
    refine ws_nil ?_
    refine ws_cons (ws_set 5 nd (ed_call G_law_draws (hr.mono (by decide)) (by rfl) (ad_cons (ed_call G_law_cell (hr.mono (by decide)) (by rfl) (ad_cons (ed_var 0 rfl) (ad_cons ed_int ad_nil)) (by exact .mk _ _ (by omega))) (ad_cons ed_int ad_nil)) (by exact .mk _ _ (by omega) (by omega))) ?_)
    walk_at "env"
    refine ws_cons (ws_forU (List.range (6)) (fun (i : Nat) => D.int (i : Int)) rfl (id_range1 (by rfl) B.«range» ed_int (by walk_at "side")) (by exact rngD0 _) (U := Sl × Sl × Sl) (fun i u => [(6, u.1), (11, u.2.1), (12, u.2.2)]) (fun r => (r.getD 6 .no, r.getD 11 .no, r.getD 12 .no)) (fun _ => True) (rfl) (True.intro) ?_ ?_)
    · intro i0 t u0 hx0 hP0
      obtain rfl : i0 = t := by
        obtain ⟨hl, he⟩ := List.getElem?_eq_some_iff.mp hx0
        rw [List.getElem_range] at he; exact he
      have hi0 : i0 < 6 := by have := (List.getElem?_eq_some_iff.mp hx0).1; rwa [List.length_range] at this
      obtain ⟨j9, hj9⟩ : ∃ j : Nat, (j : Int) = dr (cellAt ns 1) 16 (2 * (i0 : Int)) % ((N.length + V.length + 1 : Nat) : Int) := ⟨(dr (cellAt ns 1) 16 (2 * (i0 : Int)) % ((N.length + V.length + 1 : Nat) : Int)).toNat, by have := Int.emod_nonneg (dr (cellAt ns 1) 16 (2 * (i0 : Int))) (show ((N.length + V.length + 1 : Nat) : Int) ≠ 0 by omega); omega⟩
      have hj8 : (j9 : Int) < ((N.length + V.length + 1 : Nat) : Int) := by rw [hj9]; exact Int.emod_lt_of_pos _ (by omega)
      obtain ⟨ww, hww⟩ : ∃ w, w = (wrW (dr (cellAt ns 1) 16 15 + (i0 : Int)) n).getD (dr (cellAt ns 1) 16 (2 * (i0 : Int) + 1) % 27).toNat [] := ⟨_, rfl⟩
      have hwm : ww ∈ wrW (dr (cellAt ns 1) 16 15 + (i0 : Int)) n := by rw [hww]; exact wr_mem _ _ _
      refine ⟨_, _, (dg_name 6 nd), ?_⟩
      walk_at "env"
      refine ws_cons (ws_set 11 nd (ed_bin ed_int (ED.eq (ed_bin (ed_ix (ed_var 5 rfl) (ed_bin ed_int (ed_var 6 rfl) (by walk_at "b2")) (by walk_at "ix")) (ED.eq (ed_callB (id := "len") (by rfl) B.«len» bb_len (ad_cons (ed_var 4 rfl) ad_nil) (by walk_at "bc")) (show _ = (.int ((N.length + V.length + 1 : Nat) : Int)) from by rw [List.length_map, List.length_map, wsC_len7])) (by walk_at "b2")) (show _ = (.int (j9 : Int)) from by rw [hj9])) (by walk_at "b2")) ?_)
      walk_at "env"
      refine ws_cons (ws_set 12 nd (ED.eq (ed_call G_law_wrong_line (hr.mono (by decide)) (by rfl) (ad_cons (ed_ix (ed_var 5 rfl) (ed_bin (ed_bin ed_int (ed_var 6 rfl) (by walk_at "b2")) ed_int (by walk_at "b2")) (by walk_at "ix")) (ad_cons (ed_bin (ed_ix (ed_var 5 rfl) ed_int (by walk_at "ix")) (ed_var 6 rfl) (by walk_at "b2")) (ad_cons (ed_var 1 rfl) ad_nil))) (by exact .mk _ _ _ (dr_lo _ _ _).1 (by have := (dr_lo (cellAt ns 1) 16 15).1; omega) hn1)) (show _ = (.str (lnW ww)) from by rw [hww])) ?_)
      walk_at "env"
      refine ws_cons (ws_if (td_cmp (ed_call G_law_line (hr.mono (by decide)) (by rfl) (ad_cons (ED.eq (d' := D.lst ((((wsC n N V).take (j9 + 1) ++ [ww] ++ (wsC n N V).drop (j9 + 1)).map lnW).map D.str)) (ed_lst (eo_cat (ed_lst (eo_cat (ED.eq (d' := D.lst ((((wsC n N V).take (j9 + 1)).map lnW).map D.str)) (ed_lst (eo_slice (ed_var 4 rfl) no_part (some_part (ed_var 11 rfl)))) (by rw [ls_take _ (by omega), show (1 + (j9 : Int)).toNat = j9 + 1 by omega])) (ed_lst (eo_lst (ad_cons (ed_var 12 rfl) ad_nil))) (by simp only [List.length_map, List.length_take, List.length_cons, List.length_nil, wsC_len7]; rw [sizeLine_eq]; omega))) (ED.eq (d' := D.lst ((((wsC n N V).drop (j9 + 1)).map lnW).map D.str)) (ed_lst (eo_slice (ed_var 4 rfl) (some_part (ed_var 11 rfl)) no_part)) (by rw [ls_drop _ (by omega), show (1 + (j9 : Int)).toNat = j9 + 1 by omega])) (by simp only [List.length_map, List.length_append, List.length_take, List.length_drop, List.length_cons, List.length_nil, wsC_len7]; rw [sizeLine_eq]; omega))) (by rw [ls_app, ls_app]; rfl)) ad_nil) (.mk _ _ (.bad _ _ (px_cut t asc (j := j9) (by omega) (by omega) (wr_ln hn1 _ hwm) (fun dn hd => cf_bad hn1 hd _ hwm))))) (ed_bin (ed_var 11 rfl) ed_int (by walk_at "b2")) (by walk_at "c2")) (fun hc4 => ?_) (fun hc4 => ?_))
      · skip
        exfalso; simp at hc4 <;> omega
      · skip
        clear hc4
        refine ws_nil ?_
        refine ws_nil ?_
        exact ⟨rfl, True.intro⟩
    · intro u0 hP0
      walk_at "env"
      refine ws_cons (ws_setO 7 nd (EO.eq (c' := .lst ((((wsC n N [])).map lnW).map D.str)) (eo_slice (ed_var 4 rfl) no_part (some_part (ed_bin ed_int (ED.eq (ed_callB (id := "len") (by rfl) B.«len» bb_len (ad_cons (ed_var 2 rfl) ad_nil) (by walk_at "bc")) (show _ = (.int (N.length : Int)) from by rw [List.length_map])) (by walk_at "b2")))) (by rw [ls_take _ (by omega), show (1 + (N.length : Int)).toNat = N.length + 1 by omega, ws_named])) ?_)
      refine ws_share 7 rfl ?_
      walk_at "env"
      refine ws_cons (ws_if (td_cmp (ED.eq (ed_callB (id := "len") (by rfl) B.«len» bb_len (ad_cons (ed_var 2 rfl) ad_nil) (by walk_at "bc")) (show _ = (.int (N.length : Int)) from by rw [List.length_map])) ed_int (by walk_at "c2")) (fun hc5 => ?_) (fun hc5 => ?_))
      · skip
        have h0N : N.length ≠ 0 := by simp at hc5; omega
        have h0m : N.getD 0 nm0 ∈ N := by rw [List.getD_eq_getElem?_getD, List.getElem?_eq_getElem (by omega)]; exact List.getElem_mem (by omega)
        have hQl : (N.getD 0 nm0).2.length ≤ 41 := (name_w (t.ok.nm _ h0m).2).n
        have hLb : 0 ≤ lastN N ∧ lastN N < n := by rw [last_get h0N]; exact (t.ok.nm _ (by rw [List.getD_eq_getElem?_getD, List.getElem?_eq_getElem (by omega)]; exact List.getElem_mem (by omega))).1
        have hLl : (stI (lastN N)).length ≤ 41 := (Rz.w (i := lastN N) ⟨by omega⟩).n
        have gL : (lastN N).natAbs.log2 < 1920 := (Rz.sm (i := lastN N) ⟨by omega⟩).log
        refine ws_cons (ws_set 13 nd (ED.eq (d' := .int (lastN N)) (ed_ix (ED.eq (d' := .tup [.int (N.getD (N.length - 1) nm0).1, .str (N.getD (N.length - 1) nm0).2]) (ed_ix (ed_var 2 rfl) (ed_neg ed_int) (.l (at_lastN h0N))) rfl) ed_int IX.t0) (by rw [last_get h0N])) ?_)
        walk_at "env"
        refine ws_cons (ws_forU (agW N n) (fun ws => D.str (lnW ws)) rfl (id_list (ED.eq (d' := .lst ((agW N n).map fun ws => D.str (lnW ws))) (ed_lst (eo_lst (ad_cons (ED.eq (ed_bin ed_str (ed_callT (T := "str") (by rfl) B.«str» bb_str (ad_cons (ed_var 13 rfl) ad_nil) (bc_strI gL)) (b2_addS (add_ok (show ("name zz " : Str).length ≤ 100 by decide +kernel) hLl))) (congrArg D.str (zz_ln2 (lastN N)))) (ad_cons (ED.eq ed_str (congrArg D.str zz0)) (ad_cons (ED.eq (ed_bin (ed_bin (ed_bin ed_str (ED.eq (d' := .str (N.getD 0 nm0).2) (ed_ix (ED.eq (d' := .tup [.int (N.getD 0 nm0).1, .str (N.getD 0 nm0).2]) (ed_ix (d := nmE (N.getD 0 nm0)) (ed_var 2 rfl) ed_int (.l (atI_nat (j := 0) (by rw [List.getElem?_map, List.getElem?_eq_getElem (by omega), List.getD_eq_getElem?_getD, List.getElem?_eq_getElem (by omega)]; rfl)))) rfl) ed_int IX.t1) rfl) (b2_addS (add_ok (show ("name " : Str).length ≤ 100 by decide +kernel) hQl))) ed_str (b2_addS (add_ok2 (show ("name " : Str).length ≤ 100 by decide +kernel) hQl (show (" " : Str).length ≤ 100 by decide +kernel)))) (ed_callT (T := "str") (by rfl) B.«str» bb_str (ad_cons (ed_bin (ed_var 1 rfl) ed_int (by walk_at "b2")) ad_nil) (bc_strI g1)) (b2_addS (add_ok3 (show ("name " : Str).length ≤ 100 by decide +kernel) hQl (show (" " : Str).length ≤ 100 by decide +kernel) hN1))) (congrArg D.str (ag_ln3 (N.getD 0 nm0).2 (n - 1)))) ad_nil))))) rfl)) (by rfl) (U := Sl) (fun i u => [(12, u)]) (fun r => (r.getD 12 .no)) (fun _ => True) (rfl) (True.intro) ?_ ?_)
        · intro i2 ww u2 hx2 hP2
          have hwa := List.mem_of_getElem? hx2
          refine ⟨_, _, (dg_name 12 nd), ?_⟩
          walk_at "env"
          refine ws_cons (ws_if (td_cmp (ed_call G_law_line (hr.mono (by decide)) (by rfl) (ad_cons (ED.eq (d' := D.lst ((((wsC n N []) ++ [ww]).map lnW).map D.str)) (ed_lst (eo_cat (ed_var 7 rfl) (ed_lst (eo_lst (ad_cons (ed_var 12 rfl) ad_nil))) (by simp only [List.length_map, List.length_append, List.length_take, List.length_drop, List.length_cons, List.length_nil, wsC_len7]; rw [sizeLine_eq]; omega))) (by rw [ls_app]; rfl)) ad_nil) (.mk _ _ (.bad _ _ (px_end tN asc (ag_bad t h0N ww hwa).2 (ag_bad t h0N ww hwa).1)))) (ed_bin (ED.eq (ed_callB (id := "len") (by rfl) B.«len» bb_len (ad_cons (ed_var 7 rfl) ad_nil) (by walk_at "bc")) (show _ = (.int ((N.length + 1 : Nat) : Int)) from by rw [List.length_map, List.length_map, wsC_len7]; rfl)) ed_int (by walk_at "b2")) (by walk_at "c2")) (fun hc6 => ?_) (fun hc6 => ?_))
          · skip
            exfalso; simp at hc6 <;> omega
          · skip
            clear hc6
            refine ws_nil ?_
            refine ws_nil ?_
            exact ⟨rfl, True.intro⟩
        · intro u2 hP2
          walk_at "env"
          refine ws_nil ?_
          refine ws_cons (ws_setO 8 nd (EO.eq (c' := .lst ((((wsC n N [pDv])).map lnW).map D.str)) (eo_cat (ed_var 7 rfl) (ed_lst (eo_lst (ad_cons ed_str ad_nil))) (by simp only [List.length_map, List.length_cons, List.length_nil, wsC_len7]; rw [sizeLine_eq]; omega)) (by rw [ws_more, ls_app, ← ln_p.1]; rfl)) ?_)
          refine ws_share 8 rfl ?_
          walk_at "env"
          refine ws_cons (ws_if (td_tw (tw_or (td_cmp (ed_call G_law_line (hr.mono (by decide)) (by rfl) (ad_cons (ED.eq (d' := D.lst ((((wsC n N [pDv]) ++ ([["name", "zz", stI (n - 1)]] : List (List Str))).map lnW).map D.str)) (ed_lst (eo_cat (ed_var 8 rfl) (ed_lst (eo_lst (ad_cons (ED.eq (ed_bin ed_str (ed_callT (T := "str") (by rfl) B.«str» bb_str (ad_cons (ed_bin (ed_var 1 rfl) ed_int (by walk_at "b2")) ad_nil) (bc_strI g1)) (b2_addS (add_ok (show ("name zz " : Str).length ≤ 100 by decide +kernel) hN1))) (congrArg D.str (zz_ln2 (n - 1)))) ad_nil))) (by simp only [List.length_map, List.length_append, List.length_take, List.length_drop, List.length_cons, List.length_nil, wsC_len7]; rw [sizeLine_eq]; omega))) (by rw [ls_app]; rfl)) ad_nil) (.mk _ _ (.bad _ _ (px_end tP asc (mo_bad1 (N := N) hn1).2 (mo_bad1 hn1).1)))) (ed_bin (ED.eq (ed_callB (id := "len") (by rfl) B.«len» bb_len (ad_cons (ed_var 8 rfl) ad_nil) (by walk_at "bc")) (show _ = (.int ((N.length + 2 : Nat) : Int)) from by rw [List.length_map, List.length_map, wsC_len7]; rfl)) ed_int (by walk_at "b2")) (by walk_at "c2")) (fun hb8 => (tw_or1 (td_cmp (ed_call G_law_line (hr.mono (by decide)) (by rfl) (ad_cons (ED.eq (d' := D.lst ((((wsC n N [pDv]) ++ [wV ⟨"p", 0, 1, 0, 1, 1⟩]).map lnW).map D.str)) (ed_lst (eo_cat (ed_var 8 rfl) (ed_lst (eo_lst (ad_cons ed_str ad_nil))) (by simp only [List.length_map, List.length_append, List.length_take, List.length_drop, List.length_cons, List.length_nil, wsC_len7]; rw [sizeLine_eq]; omega))) (by rw [ls_app, ← ln_p.2.2.1]; rfl)) ad_nil) (.mk _ _ (.bad _ _ (px_end tP asc (mo_bad2 (n := n) (N := N)).2 mo_bad2.1)))) (ed_bin (ED.eq (ed_callB (id := "len") (by rfl) B.«len» bb_len (ad_cons (ed_var 8 rfl) ad_nil) (by walk_at "bc")) (show _ = (.int ((N.length + 2 : Nat) : Int)) from by rw [List.length_map, List.length_map, wsC_len7]; rfl)) ed_int (by walk_at "b2")) (by walk_at "c2")))))) (fun hc7 => ?_) (fun hc7 => ?_))
          · skip
            exfalso; simp at hc7 <;> omega
          · skip
            clear hc7
            refine ws_nil ?_
            refine ws_cons (ws_forU (fsW d14) (fun ws => D.str (lnW ws)) rfl (id_list (ED.eq (d' := .lst ((fsW d14).map fun ws => D.str (lnW ws))) (ed_lst (eo_lst (ad_cons ed_str (ad_cons ed_str (ad_cons ed_str (ad_cons ed_str (ad_cons ed_str (ad_cons ed_str (ad_cons (ed_bin ed_str (ed_call G_law_qbad_integer (hr.mono (by decide)) (by rfl) (ad_cons (ED.eq (ed_ix (ed_var 5 rfl) ed_int (by walk_at "ix")) (show _ = (.int d14) from by rw [hd14])) ad_nil) (by exact .mk _ hd140)) (b2_addS (add_ok (show ("nets " : Str).length ≤ 100 by decide +kernel) (badI_no d14).2.n))) (ad_cons ed_str ad_nil)))))))))) (show D.lst ((fsS d14).map D.str) = _ by rw [fs_str, List.map_map]; rfl))) (by rfl) (U := Sl) (fun i u => [(9, u)]) (fun r => (r.getD 9 .no)) (fun _ => True) (rfl) (True.intro) ?_ ?_)
            · intro i1 ww u1 hx1 hP1
              have hwf := List.mem_of_getElem? hx1
              refine ⟨_, _, (dg_name 9 nd), ?_⟩
              walk_at "env"
              refine ws_cons (ws_if (td_cmp (ed_call G_law_line (hr.mono (by decide)) (by rfl) (ad_cons (ED.eq (d' := D.lst ((([ww] ++ (wsC n N V).drop 1).map lnW).map D.str)) (ed_lst (eo_cat (ed_lst (eo_lst (ad_cons (ed_var 9 rfl) ad_nil))) (ED.eq (d' := D.lst ((((wsC n N V).drop 1).map lnW).map D.str)) (ed_lst (eo_slice (ed_var 4 rfl) (some_part ed_int) no_part)) (by rw [ls_drop _ (by decide)]; rfl)) (by simp only [List.length_map, List.length_drop, List.length_cons, List.length_nil, wsC_len7]; rw [sizeLine_eq]; omega))) (by rw [ls_app]; rfl)) ad_nil) (.mk _ _ (.bad _ _ (px_fst t (by omega) (fs_bad d14 ww hwf).2 (fs_bad d14 ww hwf).1)))) ed_int (by walk_at "c2")) (fun hc9 => ?_) (fun hc9 => ?_))
              · skip
                exfalso; simp at hc9 <;> omega
              · skip
                clear hc9
                refine ws_nil ?_
                refine ws_nil ?_
                exact ⟨rfl, True.intro⟩
            · intro u1 hP1
              walk_at "env"
              refine ws_cons (ws_setO 10 nd (EO.eq (c' := .lst (((wsC 1 [] manV ++ [wV nDv]).map lnW).map D.str)) (eo_cat (ed_lst (eo_lst (ad_cons ed_str ad_nil))) (ed_lst (eo_rep (eo_lst (ad_cons ed_str ad_nil)) ed_int (by decide) (by decide) (by simp only [List.length_cons, List.length_nil]; decide))) (by rw [sizeLine_eq]; decide +kernel)) (congrArg OC.lst man_D)) ?_)
              refine ws_share 10 rfl ?_
              walk_at "env"
              refine ws_cons (ws_ret (ED.eq (ed_and (ed_cmp (ed_call G_law_line (hr.mono (by decide)) (by rfl) (ad_cons (ed_var 10 rfl) ad_nil) (.mk _ _ (.bad _ _ man_px))) ed_int (by walk_at "c2")) (fun hb10 => (ed_one (ed_cmp (ed_call G_law_line (hr.mono (by decide)) (by rfl) (ad_cons (ED.eq (d' := D.lst (((wsC 1 [] manV).map lnW).map D.str)) (ed_lst (eo_slice (ed_var 10 rfl) no_part (some_part ed_int))) (by rw [ls_take _ (by decide)]; exact congrArg (fun W : List (List Str) => D.lst (((W).map lnW).map D.str)) man_take)) ad_nil) (.mk _ _ (.ok 1 [] manV manV_tx List.Pairwise.nil))) ed_int (by walk_at "c2"))))) ?_) (Or.inl rfl))
              simp
      · skip
        clear hc5
        refine ws_nil ?_
        refine ws_cons (ws_setO 8 nd (EO.eq (c' := .lst ((((wsC n N [pDv])).map lnW).map D.str)) (eo_cat (ed_var 7 rfl) (ed_lst (eo_lst (ad_cons ed_str ad_nil))) (by simp only [List.length_map, List.length_cons, List.length_nil, wsC_len7]; rw [sizeLine_eq]; omega)) (by rw [ws_more, ls_app, ← ln_p.1]; rfl)) ?_)
        refine ws_share 8 rfl ?_
        walk_at "env"
        refine ws_cons (ws_if (td_tw (tw_or (td_cmp (ed_call G_law_line (hr.mono (by decide)) (by rfl) (ad_cons (ED.eq (d' := D.lst ((((wsC n N [pDv]) ++ ([["name", "zz", stI (n - 1)]] : List (List Str))).map lnW).map D.str)) (ed_lst (eo_cat (ed_var 8 rfl) (ed_lst (eo_lst (ad_cons (ED.eq (ed_bin ed_str (ed_callT (T := "str") (by rfl) B.«str» bb_str (ad_cons (ed_bin (ed_var 1 rfl) ed_int (by walk_at "b2")) ad_nil) (bc_strI g1)) (b2_addS (add_ok (show ("name zz " : Str).length ≤ 100 by decide +kernel) hN1))) (congrArg D.str (zz_ln2 (n - 1)))) ad_nil))) (by simp only [List.length_map, List.length_append, List.length_take, List.length_drop, List.length_cons, List.length_nil, wsC_len7]; rw [sizeLine_eq]; omega))) (by rw [ls_app]; rfl)) ad_nil) (.mk _ _ (.bad _ _ (px_end tP asc (mo_bad1 (N := N) hn1).2 (mo_bad1 hn1).1)))) (ed_bin (ED.eq (ed_callB (id := "len") (by rfl) B.«len» bb_len (ad_cons (ed_var 8 rfl) ad_nil) (by walk_at "bc")) (show _ = (.int ((N.length + 2 : Nat) : Int)) from by rw [List.length_map, List.length_map, wsC_len7]; rfl)) ed_int (by walk_at "b2")) (by walk_at "c2")) (fun hb12 => (tw_or1 (td_cmp (ed_call G_law_line (hr.mono (by decide)) (by rfl) (ad_cons (ED.eq (d' := D.lst ((((wsC n N [pDv]) ++ [wV ⟨"p", 0, 1, 0, 1, 1⟩]).map lnW).map D.str)) (ed_lst (eo_cat (ed_var 8 rfl) (ed_lst (eo_lst (ad_cons ed_str ad_nil))) (by simp only [List.length_map, List.length_append, List.length_take, List.length_drop, List.length_cons, List.length_nil, wsC_len7]; rw [sizeLine_eq]; omega))) (by rw [ls_app, ← ln_p.2.2.1]; rfl)) ad_nil) (.mk _ _ (.bad _ _ (px_end tP asc (mo_bad2 (n := n) (N := N)).2 mo_bad2.1)))) (ed_bin (ED.eq (ed_callB (id := "len") (by rfl) B.«len» bb_len (ad_cons (ed_var 8 rfl) ad_nil) (by walk_at "bc")) (show _ = (.int ((N.length + 2 : Nat) : Int)) from by rw [List.length_map, List.length_map, wsC_len7]; rfl)) ed_int (by walk_at "b2")) (by walk_at "c2")))))) (fun hc11 => ?_) (fun hc11 => ?_))
        · skip
          exfalso; simp at hc11 <;> omega
        · skip
          clear hc11
          refine ws_nil ?_
          refine ws_cons (ws_forU (fsW d14) (fun ws => D.str (lnW ws)) rfl (id_list (ED.eq (d' := .lst ((fsW d14).map fun ws => D.str (lnW ws))) (ed_lst (eo_lst (ad_cons ed_str (ad_cons ed_str (ad_cons ed_str (ad_cons ed_str (ad_cons ed_str (ad_cons ed_str (ad_cons (ed_bin ed_str (ed_call G_law_qbad_integer (hr.mono (by decide)) (by rfl) (ad_cons (ED.eq (ed_ix (ed_var 5 rfl) ed_int (by walk_at "ix")) (show _ = (.int d14) from by rw [hd14])) ad_nil) (by exact .mk _ hd140)) (b2_addS (add_ok (show ("nets " : Str).length ≤ 100 by decide +kernel) (badI_no d14).2.n))) (ad_cons ed_str ad_nil)))))))))) (show D.lst ((fsS d14).map D.str) = _ by rw [fs_str, List.map_map]; rfl))) (by rfl) (U := Sl) (fun i u => [(9, u)]) (fun r => (r.getD 9 .no)) (fun _ => True) (rfl) (True.intro) ?_ ?_)
          · intro i1 ww u1 hx1 hP1
            have hwf := List.mem_of_getElem? hx1
            refine ⟨_, _, (dg_name 9 nd), ?_⟩
            walk_at "env"
            refine ws_cons (ws_if (td_cmp (ed_call G_law_line (hr.mono (by decide)) (by rfl) (ad_cons (ED.eq (d' := D.lst ((([ww] ++ (wsC n N V).drop 1).map lnW).map D.str)) (ed_lst (eo_cat (ed_lst (eo_lst (ad_cons (ed_var 9 rfl) ad_nil))) (ED.eq (d' := D.lst ((((wsC n N V).drop 1).map lnW).map D.str)) (ed_lst (eo_slice (ed_var 4 rfl) (some_part ed_int) no_part)) (by rw [ls_drop _ (by decide)]; rfl)) (by simp only [List.length_map, List.length_drop, List.length_cons, List.length_nil, wsC_len7]; rw [sizeLine_eq]; omega))) (by rw [ls_app]; rfl)) ad_nil) (.mk _ _ (.bad _ _ (px_fst t (by omega) (fs_bad d14 ww hwf).2 (fs_bad d14 ww hwf).1)))) ed_int (by walk_at "c2")) (fun hc13 => ?_) (fun hc13 => ?_))
            · skip
              exfalso; simp at hc13 <;> omega
            · skip
              clear hc13
              refine ws_nil ?_
              refine ws_nil ?_
              exact ⟨rfl, True.intro⟩
          · intro u1 hP1
            walk_at "env"
            refine ws_cons (ws_setO 10 nd (EO.eq (c' := .lst (((wsC 1 [] manV ++ [wV nDv]).map lnW).map D.str)) (eo_cat (ed_lst (eo_lst (ad_cons ed_str ad_nil))) (ed_lst (eo_rep (eo_lst (ad_cons ed_str ad_nil)) ed_int (by decide) (by decide) (by simp only [List.length_cons, List.length_nil]; decide))) (by rw [sizeLine_eq]; decide +kernel)) (congrArg OC.lst man_D)) ?_)
            refine ws_share 10 rfl ?_
            walk_at "env"
            refine ws_cons (ws_ret (ED.eq (ed_and (ed_cmp (ed_call G_law_line (hr.mono (by decide)) (by rfl) (ad_cons (ed_var 10 rfl) ad_nil) (.mk _ _ (.bad _ _ man_px))) ed_int (by walk_at "c2")) (fun hb14 => (ed_one (ed_cmp (ed_call G_law_line (hr.mono (by decide)) (by rfl) (ad_cons (ED.eq (d' := D.lst (((wsC 1 [] manV).map lnW).map D.str)) (ed_lst (eo_slice (ed_var 10 rfl) no_part (some_part ed_int))) (by rw [ls_take _ (by decide)]; exact congrArg (fun W : List (List Str) => D.lst (((W).map lnW).map D.str)) man_take)) ad_nil) (.mk _ _ (.ok 1 [] manV manV_tx List.Pairwise.nil))) ed_int (by walk_at "c2"))))) ?_) (Or.inl rfl))
            simp
end
theorem all_mk {l : PySem.W.OpenLaw} {w : World} {K : PySem.W.Frag} {h : Heap} {mg : Str → Option Value} {fa : Addr} (X : K.In h) (G : h.Ns mainGlobals mg) (hfa : mg "law" = some (.ref fa))
    {C_Circuit : Addr} (aC_Circuit : PySem.W.nsIn K mainGlobals "Circuit" = some (some (.ref C_Circuit)))
    (pg_Circuit : PySem.W.plainGet K C_Circuit Str.empty = true) (hd_Circuit : PySem.W.hasDictIn K C_Circuit = true) (po_Circuit : PySem.W.plainOver K C_Circuit = true) (sa_Circuit : PySem.W.findIn K (.ref C_Circuit) "__setattr__" = some (some (.builtin "object.__setattr__"))) (ha_Circuit : PySem.W.findIn K (.ref C_Circuit) "__class__" = some (some (.builtin "object.__class__"))) (hn_Circuit : PySem.W.specialIn K (.builtin "object.__class__") "__get__" = some (some (.builtin "getset_descriptor.__get__"))) (htk_Circuit : PySem.W.takesIn K (.builtin "object.__class__") = some true) (hm_Circuit : PySem.W.mroIn K C_Circuit (.type "object") = some true) (kc_Circuit : PySem.W.keepIn K (.ref C_Circuit) = true) (mk_Circuit : PySem.W.makesIn K C_Circuit = true)
    (na0_Circuit : PySem.W.findIn K (.ref C_Circuit) "net_count" = some none)
    (na1_Circuit : PySem.W.findIn K (.ref C_Circuit) "names" = some none)
    (na2_Circuit : PySem.W.findIn K (.ref C_Circuit) "devices" = some none)
    (na3_Circuit : PySem.W.findIn K (.ref C_Circuit) "_name_table" = some none)
    {f0 : Addr} {od0 an0 : Option Addr} {sl0 : Array (Option Value)} {oc0 kV0 dc0 pm0 cd0 ct0 : Value} (a0 : PySem.W.nsIn K mainGlobals "is_name" = some (some (.ref f0))) (l0 : K.lookup f0 = some ⟨oc0, od0, .func (PySem.W.fnOf "is_name" "is_name" (defArgs s_is_name) (defBody s_is_name) (defScope s_is_name) .none kV0 dc0 pm0 an0 cd0 ct0), sl0⟩) (c0 : PySem.W.codeIn K cd0 "is_name" = true) (k0 : PySem.W.keepIn K (.ref f0) = true)
    {f1 : Addr} {od1 an1 : Option Addr} {sl1 : Array (Option Value)} {oc1 kV1 dc1 pm1 cd1 ct1 : Value} (a1 : PySem.W.nsIn K mainGlobals "is_net_count" = some (some (.ref f1))) (l1 : K.lookup f1 = some ⟨oc1, od1, .func (PySem.W.fnOf "is_net_count" "is_net_count" (defArgs s_is_net_count) (defBody s_is_net_count) (defScope s_is_net_count) .none kV1 dc1 pm1 an1 cd1 ct1), sl1⟩) (c1 : PySem.W.codeIn K cd1 "is_net_count" = true) (k1 : PySem.W.keepIn K (.ref f1) = true)
    {f2 : Addr} {od2 an2 : Option Addr} {sl2 : Array (Option Value)} {oc2 kV2 dc2 pm2 cd2 ct2 : Value} (a2 : PySem.W.nsIn K mainGlobals "is_device" = some (some (.ref f2))) (l2 : K.lookup f2 = some ⟨oc2, od2, .func (PySem.W.fnOf "is_device" "is_device" (defArgs s_is_device) (defBody s_is_device) (defScope s_is_device) .none kV2 dc2 pm2 an2 cd2 ct2), sl2⟩) (c2 : PySem.W.codeIn K cd2 "is_device" = true) (k2 : PySem.W.keepIn K (.ref f2) = true)
    {f3 : Addr} {od3 an3 : Option Addr} {sl3 : Array (Option Value)} {oc3 kV3 dc3 pm3 cd3 ct3 : Value} (a3 : PySem.W.nsIn K mainGlobals "are_names" = some (some (.ref f3))) (l3 : K.lookup f3 = some ⟨oc3, od3, .func (PySem.W.fnOf "are_names" "are_names" (defArgs s_are_names) (defBody s_are_names) (defScope s_are_names) .none kV3 dc3 pm3 an3 cd3 ct3), sl3⟩) (c3 : PySem.W.codeIn K cd3 "are_names" = true) (k3 : PySem.W.keepIn K (.ref f3) = true)
    {f4 : Addr} {od4 an4 : Option Addr} {sl4 : Array (Option Value)} {oc4 kV4 dc4 pm4 cd4 ct4 : Value} (a4 : PySem.W.findIn K (.ref C_Circuit) "__init__" = some (some (.ref f4))) (i4 : PySem.W.isFn K (.ref f4) = true) (l4 : K.lookup f4 = some ⟨oc4, od4, .func (PySem.W.fnOf "__init__" "Circuit.__init__" (defArgs s_Circuit_init) (defBody s_Circuit_init) (defScope s_Circuit_init) .none kV4 dc4 pm4 an4 cd4 ct4), sl4⟩) (c4 : PySem.W.codeIn K cd4 "Circuit.__init__" = true) (k4 : PySem.W.keepIn K (.ref f4) = true)
    {f5 : Addr} {od5 an5 : Option Addr} {sl5 : Array (Option Value)} {oc5 kV5 dc5 pm5 cd5 ct5 : Value} (a5 : PySem.W.findIn K (.ref C_Circuit) "__eq__" = some (some (.ref f5))) (i5 : PySem.W.isFn K (.ref f5) = true) (l5 : K.lookup f5 = some ⟨oc5, od5, .func (PySem.W.fnOf "__eq__" "Circuit.__eq__" (defArgs s_Circuit_eq) (defBody s_Circuit_eq) (defScope s_Circuit_eq) .none kV5 dc5 pm5 an5 cd5 ct5), sl5⟩) (c5 : PySem.W.codeIn K cd5 "Circuit.__eq__" = true) (k5 : PySem.W.keepIn K (.ref f5) = true)
    {f6 : Addr} {od6 an6 : Option Addr} {sl6 : Array (Option Value)} {oc6 kV6 dc6 pm6 cd6 ct6 : Value} (a6 : PySem.W.nsIn K mainGlobals "is_integer" = some (some (.ref f6))) (l6 : K.lookup f6 = some ⟨oc6, od6, .func (PySem.W.fnOf "is_integer" "is_integer" (defArgs s_is_integer) (defBody s_is_integer) (defScope s_is_integer) .none kV6 dc6 pm6 an6 cd6 ct6), sl6⟩) (c6 : PySem.W.codeIn K cd6 "is_integer" = true) (k6 : PySem.W.keepIn K (.ref f6) = true)
    {f7 : Addr} {od7 an7 : Option Addr} {sl7 : Array (Option Value)} {oc7 kV7 dc7 pm7 cd7 ct7 : Value} (a7 : PySem.W.nsIn K mainGlobals "read_integers" = some (some (.ref f7))) (l7 : K.lookup f7 = some ⟨oc7, od7, .func (PySem.W.fnOf "read_integers" "read_integers" (defArgs s_read_integers) (defBody s_read_integers) (defScope s_read_integers) .none kV7 dc7 pm7 an7 cd7 ct7), sl7⟩) (c7 : PySem.W.codeIn K cd7 "read_integers" = true) (k7 : PySem.W.keepIn K (.ref f7) = true)
    {f8 : Addr} {od8 an8 : Option Addr} {sl8 : Array (Option Value)} {oc8 kV8 dc8 pm8 cd8 ct8 : Value} (a8 : PySem.W.nsIn K mainGlobals "net_count_in" = some (some (.ref f8))) (l8 : K.lookup f8 = some ⟨oc8, od8, .func (PySem.W.fnOf "net_count_in" "net_count_in" (defArgs s_net_count_in_x) (defBody s_net_count_in_x) (defScope s_net_count_in_x) .none kV8 dc8 pm8 an8 cd8 ct8), sl8⟩) (c8 : PySem.W.codeIn K cd8 "net_count_in" = true) (k8 : PySem.W.keepIn K (.ref f8) = true)
    {f9 : Addr} {od9 an9 : Option Addr} {sl9 : Array (Option Value)} {oc9 kV9 dc9 pm9 cd9 ct9 : Value} (a9 : PySem.W.nsIn K mainGlobals "name_in" = some (some (.ref f9))) (l9 : K.lookup f9 = some ⟨oc9, od9, .func (PySem.W.fnOf "name_in" "name_in" (defArgs s_name_in_x) (defBody s_name_in_x) (defScope s_name_in_x) .none kV9 dc9 pm9 an9 cd9 ct9), sl9⟩) (c9 : PySem.W.codeIn K cd9 "name_in" = true) (k9 : PySem.W.keepIn K (.ref f9) = true)
    {f10 : Addr} {od10 an10 : Option Addr} {sl10 : Array (Option Value)} {oc10 kV10 dc10 pm10 cd10 ct10 : Value} (a10 : PySem.W.nsIn K mainGlobals "device_in" = some (some (.ref f10))) (l10 : K.lookup f10 = some ⟨oc10, od10, .func (PySem.W.fnOf "device_in" "device_in" (defArgs s_device_in_x) (defBody s_device_in_x) (defScope s_device_in_x) .none kV10 dc10 pm10 an10 cd10 ct10), sl10⟩) (c10 : PySem.W.codeIn K cd10 "device_in" = true) (k10 : PySem.W.keepIn K (.ref f10) = true)
    {f11 : Addr} {od11 an11 : Option Addr} {sl11 : Array (Option Value)} {oc11 kV11 dc11 pm11 cd11 ct11 : Value} (a11 : PySem.W.nsIn K mainGlobals "parse_circuit" = some (some (.ref f11))) (l11 : K.lookup f11 = some ⟨oc11, od11, .func (PySem.W.fnOf "parse_circuit" "parse_circuit" (defArgs s_parse_circuit) (defBody s_parse_circuit) (defScope s_parse_circuit) .none kV11 dc11 pm11 an11 cd11 ct11), sl11⟩) (c11 : PySem.W.codeIn K cd11 "parse_circuit" = true) (k11 : PySem.W.keepIn K (.ref f11) = true)
    {f12 : Addr} {od12 an12 : Option Addr} {sl12 : Array (Option Value)} {oc12 kV12 dc12 pm12 cd12 ct12 : Value} (a12 : PySem.W.nsIn K mainGlobals "_law_cell" = some (some (.ref f12))) (l12 : K.lookup f12 = some ⟨oc12, od12, .func (PySem.W.fnOf "_law_cell" "_law_cell" (defArgs s_law_cell) (defBody s_law_cell) (defScope s_law_cell) .none kV12 dc12 pm12 an12 cd12 ct12), sl12⟩) (c12 : PySem.W.codeIn K cd12 "_law_cell" = true) (k12 : PySem.W.keepIn K (.ref f12) = true)
    {f13 : Addr} {od13 an13 : Option Addr} {sl13 : Array (Option Value)} {oc13 kV13 dc13 pm13 cd13 ct13 : Value} (a13 : PySem.W.nsIn K mainGlobals "_law_draws" = some (some (.ref f13))) (l13 : K.lookup f13 = some ⟨oc13, od13, .func (PySem.W.fnOf "_law_draws" "_law_draws" (defArgs s_law_draws) (defBody s_law_draws) (defScope s_law_draws) .none kV13 dc13 pm13 an13 cd13 ct13), sl13⟩) (c13 : PySem.W.codeIn K cd13 "_law_draws" = true) (k13 : PySem.W.keepIn K (.ref f13) = true)
    {f14 : Addr} {od14 an14 : Option Addr} {sl14 : Array (Option Value)} {oc14 kV14 dc14 pm14 cd14 ct14 : Value} (a14 : PySem.W.nsIn K mainGlobals "_law_name" = some (some (.ref f14))) (l14 : K.lookup f14 = some ⟨oc14, od14, .func (PySem.W.fnOf "_law_name" "_law_name" (defArgs s_law_name) (defBody s_law_name) (defScope s_law_name) .none kV14 dc14 pm14 an14 cd14 ct14), sl14⟩) (c14 : PySem.W.codeIn K cd14 "_law_name" = true) (k14 : PySem.W.keepIn K (.ref f14) = true)
    {f15 : Addr} {od15 an15 : Option Addr} {sl15 : Array (Option Value)} {oc15 kV15 dc15 pm15 cd15 ct15 : Value} (a15 : PySem.W.nsIn K mainGlobals "_law_qbad_integer" = some (some (.ref f15))) (l15 : K.lookup f15 = some ⟨oc15, od15, .func (PySem.W.fnOf "_law_qbad_integer" "_law_qbad_integer" (defArgs s_law_qbad_integer) (defBody s_law_qbad_integer) (defScope s_law_qbad_integer) .none kV15 dc15 pm15 an15 cd15 ct15), sl15⟩) (c15 : PySem.W.codeIn K cd15 "_law_qbad_integer" = true) (k15 : PySem.W.keepIn K (.ref f15) = true)
    {f16 : Addr} {od16 an16 : Option Addr} {sl16 : Array (Option Value)} {oc16 kV16 dc16 pm16 cd16 ct16 : Value} (a16 : PySem.W.nsIn K mainGlobals "_law_qbad_name" = some (some (.ref f16))) (l16 : K.lookup f16 = some ⟨oc16, od16, .func (PySem.W.fnOf "_law_qbad_name" "_law_qbad_name" (defArgs s_law_qbad_name) (defBody s_law_qbad_name) (defScope s_law_qbad_name) .none kV16 dc16 pm16 an16 cd16 ct16), sl16⟩) (c16 : PySem.W.codeIn K cd16 "_law_qbad_name" = true) (k16 : PySem.W.keepIn K (.ref f16) = true)
    {f17 : Addr} {od17 an17 : Option Addr} {sl17 : Array (Option Value)} {oc17 kV17 dc17 pm17 cd17 ct17 : Value} (a17 : PySem.W.nsIn K mainGlobals "_law_qcircuit" = some (some (.ref f17))) (l17 : K.lookup f17 = some ⟨oc17, od17, .func (PySem.W.fnOf "_law_qcircuit" "_law_qcircuit" (defArgs s_law_qcircuit) (defBody s_law_qcircuit) (defScope s_law_qcircuit) .none kV17 dc17 pm17 an17 cd17 ct17), sl17⟩) (c17 : PySem.W.codeIn K cd17 "_law_qcircuit" = true) (k17 : PySem.W.keepIn K (.ref f17) = true)
    {f18 : Addr} {od18 an18 : Option Addr} {sl18 : Array (Option Value)} {oc18 kV18 dc18 pm18 cd18 ct18 : Value} (a18 : PySem.W.nsIn K mainGlobals "_law_qcircuit_lines" = some (some (.ref f18))) (l18 : K.lookup f18 = some ⟨oc18, od18, .func (PySem.W.fnOf "_law_qcircuit_lines" "_law_qcircuit_lines" (defArgs s_law_qcircuit_lines) (defBody s_law_qcircuit_lines) (defScope s_law_qcircuit_lines) .none kV18 dc18 pm18 an18 cd18 ct18), sl18⟩) (c18 : PySem.W.codeIn K cd18 "_law_qcircuit_lines" = true) (k18 : PySem.W.keepIn K (.ref f18) = true)
    {f19 : Addr} {od19 an19 : Option Addr} {sl19 : Array (Option Value)} {oc19 kV19 dc19 pm19 cd19 ct19 : Value} (a19 : PySem.W.nsIn K mainGlobals "_law_line" = some (some (.ref f19))) (l19 : K.lookup f19 = some ⟨oc19, od19, .func (PySem.W.fnOf "_law_line" "_law_line" (defArgs s_law_line) (defBody s_law_line) (defScope s_law_line) .none kV19 dc19 pm19 an19 cd19 ct19), sl19⟩) (c19 : PySem.W.codeIn K cd19 "_law_line" = true) (k19 : PySem.W.keepIn K (.ref f19) = true)
    {f20 : Addr} {od20 an20 : Option Addr} {sl20 : Array (Option Value)} {oc20 kV20 dc20 pm20 cd20 ct20 : Value} (a20 : PySem.W.nsIn K mainGlobals "_law_wrong_line" = some (some (.ref f20))) (l20 : K.lookup f20 = some ⟨oc20, od20, .func (PySem.W.fnOf "_law_wrong_line" "_law_wrong_line" (defArgs s_law_wrong_line) (defBody s_law_wrong_line) (defScope s_law_wrong_line) .none kV20 dc20 pm20 an20 cd20 ct20), sl20⟩) (c20 : PySem.W.codeIn K cd20 "_law_wrong_line" = true) (k20 : PySem.W.keepIn K (.ref f20) = true)
    {f21 : Addr} {od21 an21 : Option Addr} {sl21 : Array (Option Value)} {oc21 kV21 dc21 pm21 cd21 ct21 : Value} (a21 : PySem.W.nsIn K mainGlobals "law" = some (some (.ref f21))) (l21 : K.lookup f21 = some ⟨oc21, od21, .func (PySem.W.fnOf "law" "law" (defArgs s_law) (defBody s_law) (defScope s_law) .none kV21 dc21 pm21 an21 cd21 ct21), sl21⟩) (c21 : PySem.W.codeIn K cd21 "law" = true) (k21 : PySem.W.keepIn K (.ref f21) = true)
    (z_all : PySem.W.nsIn K mainGlobals "all" = some none)
    (z_dict : PySem.W.nsIn K mainGlobals "dict" = some none)
    (z_enumerate : PySem.W.nsIn K mainGlobals "enumerate" = some none)
    (z_int : PySem.W.nsIn K mainGlobals "int" = some none)
    (z_isinstance : PySem.W.nsIn K mainGlobals "isinstance" = some none)
    (z_len : PySem.W.nsIn K mainGlobals "len" = some none)
    (z_range : PySem.W.nsIn K mainGlobals "range" = some none)
    (z_set : PySem.W.nsIn K mainGlobals "set" = some none)
    (z_sorted : PySem.W.nsIn K mainGlobals "sorted" = some none)
    (z_str : PySem.W.nsIn K mainGlobals "str" = some none)
    (z_tuple : PySem.W.nsIn K mainGlobals "tuple" = some none)
    {u_KINDS : Value} (y_KINDS : PySem.W.nsIn K mainGlobals "KINDS" = some (some u_KINDS)) (w_KINDS : KD K (.tup [.str "n", .str "p"]) u_KINDS)
    {u_MOST_CHARACTERS : Value} (y_MOST_CHARACTERS : PySem.W.nsIn K mainGlobals "MOST_CHARACTERS" = some (some u_MOST_CHARACTERS)) (w_MOST_CHARACTERS : KD K (.int 12) u_MOST_CHARACTERS)
    {u_MOST_DEVICES : Value} (y_MOST_DEVICES : PySem.W.nsIn K mainGlobals "MOST_DEVICES" = some (some u_MOST_DEVICES)) (w_MOST_DEVICES : KD K (.int 200) u_MOST_DEVICES)
    {u_MOST_DIGITS : Value} (y_MOST_DIGITS : PySem.W.nsIn K mainGlobals "MOST_DIGITS" = some (some u_MOST_DIGITS)) (w_MOST_DIGITS : KD K (.int 30) u_MOST_DIGITS)
    {u_MOST_NETS : Value} (y_MOST_NETS : PySem.W.nsIn K mainGlobals "MOST_NETS" = some (some u_MOST_NETS)) (w_MOST_NETS : KD K (.int 200) u_MOST_NETS)
    {E_InvalidText : Addr} (ea_InvalidText : PySem.W.nsIn K mainGlobals "InvalidText" = some (some (.ref E_InvalidText)))
    (es_InvalidText : PySem.W.subIn K (.ref E_InvalidText) (.type "BaseException") = some true)
    (ed_InvalidText : PySem.W.hasDictIn K E_InvalidText = true)
    (et_InvalidText : PySem.W.typeIn K (.ref E_InvalidText) = some (.type "type"))
    (eg_InvalidText : PySem.W.findIn K (.ref E_InvalidText) "__getattribute__" = some (some (.builtin "BaseException.__getattribute__")))
    (en_InvalidText : PySem.W.findIn K (.ref E_InvalidText) "__getattr__" = some none)
    (ec_InvalidText : PySem.W.findIn K (.ref E_InvalidText) "__class__" = some (some (.builtin "object.__class__")))
    (ep_InvalidText : PySem.W.specialIn K (.builtin "object.__class__") "__get__" = some (some (.builtin "getset_descriptor.__get__")))
    (ex_InvalidText : PySem.W.takesIn K (.builtin "object.__class__") = some true)
    (em_InvalidText : PySem.W.mroIn K E_InvalidText (.type "object") = some true)
    {E_ReticleError : Addr} (ea_ReticleError : PySem.W.nsIn K mainGlobals "ReticleError" = some (some (.ref E_ReticleError)))
    (es_ReticleError : PySem.W.subIn K (.ref E_ReticleError) (.type "BaseException") = some true)
    (ed_ReticleError : PySem.W.hasDictIn K E_ReticleError = true)
    (et_ReticleError : PySem.W.typeIn K (.ref E_ReticleError) = some (.type "type"))
    (e4_m1 : PySem.W.subIn K (.ref E_InvalidText) (.ref E_ReticleError) = some true)
    (xga_InvalidText : PySem.W.findIn K (.ref E_InvalidText) "__getattribute__" = some (some (.builtin "BaseException.__getattribute__")))
    (xgg_InvalidText : PySem.W.findIn K (.ref E_InvalidText) "__getattr__" = some none)
    (xno0_InvalidText : PySem.W.findIn K (.ref E_InvalidText) "line" = some none)
    {eF_InvalidText eK_InvalidText eO_InvalidText : Addr} {edd_InvalidText : Option Addr} {ecd_InvalidText : ClassData} {esl_InvalidText : Array (Option Value)} {eoc_InvalidText ekV_InvalidText edoc_InvalidText epm_InvalidText ect_InvalidText ecl_InvalidText eccl_InvalidText : Value} {ean_InvalidText eod_InvalidText ecld_InvalidText ecdd_InvalidText : Option Addr} {eosl_InvalidText ecsl_InvalidText eccs_InvalidText : Array (Option Value)} {evs_InvalidText : Array Value} {efl_InvalidText : Str} {etf_InvalidText : Tok}
    (lcl_InvalidText : K.lookup E_InvalidText = some ⟨.type "type", edd_InvalidText, .cls ecd_InvalidText, esl_InvalidText⟩)
    (lox_InvalidText : oexD E_InvalidText ecd_InvalidText esl_InvalidText = true)
    (lsa_InvalidText : PySem.W.findIn K (.ref E_InvalidText) "__setattr__" = some (some (.builtin "object.__setattr__")))
    (lkp_InvalidText : PySem.W.keepIn K (.ref E_InvalidText) = true)
    (lin_InvalidText : PySem.W.findIn K (.ref E_InvalidText) "__init__" = some (some (.ref eF_InvalidText)))
    (lti_InvalidText : PySem.W.typeIn K (.ref eF_InvalidText) = some (.type "function"))
    (lfn_InvalidText : K.lookup eF_InvalidText = some ⟨eoc_InvalidText, eod_InvalidText, .func (PySem.W.fnX "__init__" "InvalidText.__init__" (defArgs s_E_InvalidText) (defBody s_E_InvalidText) (defScope s_E_InvalidText) [("__class__", eK_InvalidText)] .none ekV_InvalidText edoc_InvalidText epm_InvalidText ean_InvalidText (.ref eO_InvalidText) ect_InvalidText), eosl_InvalidText⟩)
    (lcd_InvalidText : PySem.W.codeIn K (.ref eO_InvalidText) "InvalidText.__init__" = true)
    (lce_InvalidText : K.lookup eK_InvalidText = some ⟨ecl_InvalidText, ecld_InvalidText, .cell (some (.ref E_InvalidText)), ecsl_InvalidText⟩)
    (lco_InvalidText : K.lookup eO_InvalidText = some ⟨eccl_InvalidText, ecdd_InvalidText, .fields evs_InvalidText, eccs_InvalidText⟩)
    (lvs_InvalidText : evs_InvalidText[2]? = some (.str efl_InvalidText etf_InvalidText))
    (lfi_InvalidText : ((l.prog.main.file : Str) == efl_InvalidText) = true)
    (lto_InvalidText : (l.prog.main.scope.names.lookup ("super" : Str)).isSome = false)
    (lsu_InvalidText : PySem.W.nsIn K mainGlobals "super" = some none)
    (lmr_InvalidText : PySem.W.mroIn K E_InvalidText (.ref E_InvalidText) = some true)
    (lop_InvalidText : PySem.W.nsIn K cStatics "thirdparty.any" = some none)
    (lii_InvalidText : PySem.W.ks_superIn K E_InvalidText E_InvalidText "__init__" = some (some (.builtin "ValueError.__init__")))
    (lve_InvalidText : PySem.W.subIn K (.ref E_InvalidText) (.type "ValueError") = some true)
    (lf1_InvalidText : PySem.W.findIn K (.ref E_InvalidText) "line" = some none)
    : ∃ fd : FuncData, (∀ (s : Shared) (v : Value), BindsTo s fd ⟨[v], []⟩ [("script", v)]) ∧ ∀ base : Heap, K.In base → base.Ns mainGlobals mg → FnOk l.prog w K mg base CX0 8 fa fd ["script"] (spR K RLaw) := by
  have e := hfa.symm.trans (PySem.W.mg_of X G a21)
  cases e
  have B : Bt mg := ⟨PySem.W.mg_none_of X G z_all, PySem.W.mg_none_of X G z_dict, PySem.W.mg_none_of X G z_enumerate, PySem.W.mg_none_of X G z_int, PySem.W.mg_none_of X G z_isinstance, PySem.W.mg_none_of X G z_len, PySem.W.mg_none_of X G z_range, PySem.W.mg_none_of X G z_set, PySem.W.mg_none_of X G z_sorted, PySem.W.mg_none_of X G z_str, PySem.W.mg_none_of X G z_tuple⟩
  have KC : Kt K mg := ⟨⟨⟨u_KINDS, PySem.W.mg_of X G y_KINDS, w_KINDS⟩⟩, ⟨⟨u_MOST_CHARACTERS, PySem.W.mg_of X G y_MOST_CHARACTERS, w_MOST_CHARACTERS⟩⟩, ⟨⟨u_MOST_DEVICES, PySem.W.mg_of X G y_MOST_DEVICES, w_MOST_DEVICES⟩⟩, ⟨⟨u_MOST_DIGITS, PySem.W.mg_of X G y_MOST_DIGITS, w_MOST_DIGITS⟩⟩, ⟨⟨u_MOST_NETS, PySem.W.mg_of X G y_MOST_NETS, w_MOST_NETS⟩⟩⟩
  have KL : Lt K mg := ⟨⟨⟨C_Circuit, aC_Circuit, PySem.W.mg_of X G aC_Circuit, ⟨⟨pg_Circuit, hd_Circuit, po_Circuit, sa_Circuit⟩, ha_Circuit, hn_Circuit, htk_Circuit, hm_Circuit, kit_self⟩, kc_Circuit, (List.forall_mem_cons.mpr ⟨na0_Circuit, (List.forall_mem_cons.mpr ⟨na1_Circuit, (List.forall_mem_cons.mpr ⟨na2_Circuit, (List.forall_mem_cons.mpr ⟨na3_Circuit, fun _ h => absurd h (by simp)⟩)⟩)⟩)⟩)⟩⟩⟩
  have XF : Xt K mg := ⟨⟨⟨E_InvalidText, ea_InvalidText, ⟨eg_InvalidText, en_InvalidText, es_InvalidText, ed_InvalidText, ec_InvalidText, ep_InvalidText, ex_InvalidText, em_InvalidText⟩⟩⟩, ⟨⟨E_InvalidText, E_ReticleError, ea_InvalidText, PySem.W.mg_of X G ea_ReticleError, PySem.W.exm_ref es_ReticleError ed_ReticleError et_ReticleError e4_m1⟩⟩, ⟨⟨E_InvalidText, E_InvalidText, ea_InvalidText, PySem.W.mg_of X G ea_InvalidText, kit_self⟩⟩, ⟨⟨E_InvalidText, ea_InvalidText, ⟨xga_InvalidText, xgg_InvalidText, es_InvalidText, ed_InvalidText⟩, (List.forall_mem_cons.mpr ⟨xno0_InvalidText, fun _ h => absurd h (by simp)⟩)⟩⟩⟩
  have F0 := fun_mk (st := s_is_name) l0 c0 k0
  have b0 := F0.binds (ps := ["name"]) fun _ _ _ _ _ _ us hl => match us, hl with | [_], _ => rfl
  have F1 := fun_mk (st := s_is_net_count) l1 c1 k1
  have b1 := F1.binds (ps := ["net_count"]) fun _ _ _ _ _ _ us hl => match us, hl with | [_], _ => rfl
  have F2 := fun_mk (st := s_is_device) l2 c2 k2
  have b2 := F2.binds (ps := ["device", "net_count"]) fun _ _ _ _ _ _ us hl => match us, hl with | [_, _], _ => rfl
  have F3 := fun_mk (st := s_are_names) l3 c3 k3
  have b3 := F3.binds (ps := ["names", "net_count"]) fun _ _ _ _ _ _ us hl => match us, hl with | [_, _], _ => rfl
  have F4 := fun_mk (st := s_Circuit_init) l4 c4 k4
  have b4 := F4.binds (ps := ["self", "net_count", "names", "devices"]) fun _ _ _ _ _ _ us hl => match us, hl with | [_, _, _, _], _ => rfl
  have F5 := fun_mk (st := s_Circuit_eq) l5 c5 k5
  have b5 := F5.binds (ps := ["self", "other"]) fun _ _ _ _ _ _ us hl => match us, hl with | [_, _], _ => rfl
  have F6 := fun_mk (st := s_is_integer) l6 c6 k6
  have b6 := F6.binds (ps := ["word"]) fun _ _ _ _ _ _ us hl => match us, hl with | [_], _ => rfl
  have F7 := fun_mk (st := s_read_integers) l7 c7 k7
  have b7 := F7.binds (ps := ["words"]) fun _ _ _ _ _ _ us hl => match us, hl with | [_], _ => rfl
  have F8 := fun_mk (st := s_net_count_in_x) l8 c8 k8
  have b8 := F8.binds (ps := ["words"]) fun _ _ _ _ _ _ us hl => match us, hl with | [_], _ => rfl
  have F9 := fun_mk (st := s_name_in_x) l9 c9 k9
  have b9 := F9.binds (ps := ["words", "net_count", "names"]) fun _ _ _ _ _ _ us hl => match us, hl with | [_, _, _], _ => rfl
  have F10 := fun_mk (st := s_device_in_x) l10 c10 k10
  have b10 := F10.binds (ps := ["words", "net_count"]) fun _ _ _ _ _ _ us hl => match us, hl with | [_, _], _ => rfl
  have F11 := fun_mk (st := s_parse_circuit) l11 c11 k11
  have b11 := F11.binds (ps := ["text"]) fun _ _ _ _ _ _ us hl => match us, hl with | [_], _ => rfl
  have F12 := fun_mk (st := s_law_cell) l12 c12 k12
  have b12 := F12.binds (ps := ["script", "k"]) fun _ _ _ _ _ _ us hl => match us, hl with | [_, _], _ => rfl
  have F13 := fun_mk (st := s_law_draws) l13 c13 k13
  have b13 := F13.binds (ps := ["cell", "count"]) fun _ _ _ _ _ _ us hl => match us, hl with | [_, _], _ => rfl
  have F14 := fun_mk (st := s_law_name) l14 c14 k14
  have b14 := F14.binds (ps := ["draw"]) fun _ _ _ _ _ _ us hl => match us, hl with | [_], _ => rfl
  have F15 := fun_mk (st := s_law_qbad_integer) l15 c15 k15
  have b15 := F15.binds (ps := ["draw"]) fun _ _ _ _ _ _ us hl => match us, hl with | [_], _ => rfl
  have F16 := fun_mk (st := s_law_qbad_name) l16 c16 k16
  have b16 := F16.binds (ps := ["draw"]) fun _ _ _ _ _ _ us hl => match us, hl with | [_], _ => rfl
  have F17 := fun_mk (st := s_law_qcircuit) l17 c17 k17
  have b17 := F17.binds (ps := ["cell", "nets", "most"]) fun _ _ _ _ _ _ us hl => match us, hl with | [_, _, _], _ => rfl
  have F18 := fun_mk (st := s_law_qcircuit_lines) l18 c18 k18
  have b18 := F18.binds (ps := ["count", "names", "devices"]) fun _ _ _ _ _ _ us hl => match us, hl with | [_, _, _], _ => rfl
  have F19 := fun_mk (st := s_law_line) l19 c19 k19
  have b19 := F19.binds (ps := ["lines"]) fun _ _ _ _ _ _ us hl => match us, hl with | [_], _ => rfl
  have F20 := fun_mk (st := s_law_wrong_line) l20 c20 k20
  have b20 := F20.binds (ps := ["draw", "more", "count"]) fun _ _ _ _ _ _ us hl => match us, hl with | [_, _, _], _ => rfl
  have F21 := fun_mk (st := s_law) l21 c21 k21
  refine ⟨PySem.W.fnOf "law" "law" (defArgs s_law) (defBody s_law) (defScope s_law) .none kV21 dc21 pm21 an21 cd21 ct21, fun s v => .of_eq rfl, fun base _ _ => ?_⟩
  have TE_InvalidText : L2.OexC K E_InvalidText := oex_mk lcl_InvalidText lox_InvalidText lsa_InvalidText es_InvalidText et_InvalidText lkp_InvalidText
  have SE_InvalidText : SupK l.prog K mg E_InvalidText eF_InvalidText eK_InvalidText eO_InvalidText (F_E_InvalidText eK_InvalidText eO_InvalidText) := ⟨⟨rfl, rfl⟩, ⟨eoc_InvalidText, eod_InvalidText, eosl_InvalidText, .none, ekV_InvalidText, edoc_InvalidText, epm_InvalidText, ean_InvalidText, ect_InvalidText, lfn_InvalidText⟩, lcd_InvalidText, ⟨ecl_InvalidText, ecld_InvalidText, ecsl_InvalidText, lce_InvalidText⟩, ⟨eccl_InvalidText, ecdd_InvalidText, eccs_InvalidText, evs_InvalidText, efl_InvalidText, etf_InvalidText, lco_InvalidText, lvs_InvalidText, lfi_InvalidText⟩, lto_InvalidText, ⟨_, rfl, rfl⟩, PySem.W.mg_none_of X G lsu_InvalidText, lmr_InvalidText, lop_InvalidText, lii_InvalidText, lve_InvalidText⟩
  have GE_InvalidText : FnEr l.prog w K mg base "InvalidText" ["line"] 1 R_E_InvalidText := ⟨⟨E_InvalidText, eF_InvalidText, _, ["self", "line"], ea_InvalidText, PySem.W.mg_of X G ea_InvalidText, TE_InvalidText, lin_InvalidText, lti_InvalidText, okE_InvalidText SE_InvalidText TE_InvalidText lf1_InvalidText lfn_InvalidText, Binds.all fun us hl => match us, hl with | [_, _], _ => rfl⟩⟩
  have G_is_name : Fn l.prog w K mg base "is_name" 1 R_is_name := fn_wrap (PySem.W.mg_of X G a0) b0 F0.kp (ok_is_name F0 B KC KL XF )
  have G_is_net_count : Fn l.prog w K mg base "is_net_count" 1 R_is_net_count := fn_wrap (PySem.W.mg_of X G a1) b1 F1.kp (ok_is_net_count F1 B KC KL XF )
  have G_is_device : Fn l.prog w K mg base "is_device" 1 R_is_device := fn_wrap (PySem.W.mg_of X G a2) b2 F2.kp (ok_is_device F2 B KC KL XF )
  have G_Circuit_eq : FnM l.prog w K mg base "Circuit" "__eq__" 1 R_Circuit_eq := ⟨⟨C_Circuit, f5, _, _, aC_Circuit, ⟨pg_Circuit, hd_Circuit, po_Circuit, sa_Circuit⟩, ⟨a5, i5, k5⟩, ok_Circuit_eq F5 B KC KL XF , b5⟩⟩
  have G_is_integer : Fn l.prog w K mg base "is_integer" 1 R_is_integer := fn_wrap (PySem.W.mg_of X G a6) b6 F6.kp (ok_is_integer F6 B KC KL XF )
  have G_law_cell : Fn l.prog w K mg base "_law_cell" 1 R_law_cell := fn_wrap (PySem.W.mg_of X G a12) b12 F12.kp (ok_law_cell F12 B KC KL XF )
  have G_law_draws : Fn l.prog w K mg base "_law_draws" 1 R_law_draws := fn_wrap (PySem.W.mg_of X G a13) b13 F13.kp (ok_law_draws F13 B KC KL XF )
  have G_law_name : Fn l.prog w K mg base "_law_name" 1 R_law_name := fn_wrap (PySem.W.mg_of X G a14) b14 F14.kp (ok_law_name F14 B KC KL XF )
  have G_law_qbad_integer : Fn l.prog w K mg base "_law_qbad_integer" 1 R_law_qbad_integer := fn_wrap (PySem.W.mg_of X G a15) b15 F15.kp (ok_law_qbad_integer F15 B KC KL XF )
  have G_law_qbad_name : Fn l.prog w K mg base "_law_qbad_name" 1 R_law_qbad_name := fn_wrap (PySem.W.mg_of X G a16) b16 F16.kp (ok_law_qbad_name F16 B KC KL XF )
  have G_law_qcircuit_lines : Fn l.prog w K mg base "_law_qcircuit_lines" 1 R_law_qcircuit_lines := fn_wrap (PySem.W.mg_of X G a18) b18 F18.kp (ok_law_qcircuit_lines F18 B KC KL XF )
  have G_are_names : Fn l.prog w K mg base "are_names" 2 R_are_names := fn_wrap (PySem.W.mg_of X G a3) b3 F3.kp (ok_are_names F3 B KC KL XF G_is_name)
  have G_read_integers : Fn l.prog w K mg base "read_integers" 2 R_read_integers := fn_wrap (PySem.W.mg_of X G a7) b7 F7.kp (ok_read_integers F7 B KC KL XF G_is_integer)
  have G_law_qcircuit : Fn l.prog w K mg base "_law_qcircuit" 2 R_law_qcircuit := fn_wrap (PySem.W.mg_of X G a17) b17 F17.kp (ok_law_qcircuit F17 B KC KL XF G_law_draws G_law_name)
  have G_law_wrong_line : Fn l.prog w K mg base "_law_wrong_line" 2 R_law_wrong_line := fn_wrap (PySem.W.mg_of X G a20) b20 F20.kp (ok_law_wrong_line F20 B KC KL XF G_law_qbad_integer G_law_qbad_name)
  have G_Circuit_init : FnI l.prog w K mg base "Circuit" 3 R_Circuit_init := ⟨⟨C_Circuit, f4, _, _, aC_Circuit, PySem.W.mg_of X G aC_Circuit, ⟨mk_Circuit, a4, i4, kc_Circuit⟩, ok_Circuit_init F4 B KC KL XF G_are_names G_is_device G_is_net_count, b4⟩⟩
  have G_net_count_in_x : Fn l.prog w K mg base "net_count_in" 3 R_net_count_in_x := fn_wrap (PySem.W.mg_of X G a8) b8 F8.kp (ok_net_count_in_x F8 B KC KL XF G_is_net_count G_read_integers)
  have G_net_count_in_v : Fn l.prog w K mg base "net_count_in" 4 R_net_count_in_v := fn_wrap (PySem.W.mg_of X G a8) b8 F8.kp (ok_net_count_in_v F8 B KC KL XF G_is_net_count G_read_integers)
  have G_name_in_x : Fn l.prog w K mg base "name_in" 3 R_name_in_x := fn_wrap (PySem.W.mg_of X G a9) b9 F9.kp (ok_name_in_x F9 B KC KL XF G_is_name G_read_integers)
  have G_name_in_q : Fn l.prog w K mg base "name_in" 4 R_name_in_q := fn_wrap (PySem.W.mg_of X G a9) b9 F9.kp (ok_name_in_q F9 B KC KL XF G_is_name G_read_integers)
  have G_name_in_v : Fn l.prog w K mg base "name_in" 5 R_name_in_v := fn_wrap (PySem.W.mg_of X G a9) b9 F9.kp (ok_name_in_v F9 B KC KL XF G_read_integers)
  have G_device_in_x : Fn l.prog w K mg base "device_in" 3 R_device_in_x := fn_wrap (PySem.W.mg_of X G a10) b10 F10.kp (ok_device_in_x F10 B KC KL XF G_is_device G_read_integers)
  have G_device_in_q : Fn l.prog w K mg base "device_in" 4 R_device_in_q := fn_wrap (PySem.W.mg_of X G a10) b10 F10.kp (ok_device_in_q F10 B KC KL XF G_read_integers)
  have G_device_in_v : Fn l.prog w K mg base "device_in" 5 R_device_in_v := fn_wrap (PySem.W.mg_of X G a10) b10 F10.kp (ok_device_in_v F10 B KC KL XF G_is_device G_read_integers)
  have GX_parse_circuit : FnXG l.prog w K mg base "parse_circuit" 6 RX_parse_circuit := ⟨⟨_, _, _, okX_parse_circuit F11 B KC KL XF G_device_in_q G_device_in_v G_device_in_x G_name_in_q G_name_in_v G_name_in_x G_net_count_in_v G_net_count_in_x GE_InvalidText, PySem.W.mg_of X G a11, F11.kp, b11⟩⟩
  have G_parse_circuit : Fn l.prog w K mg base "parse_circuit" 6 R_parse_circuit := fn_wrap (PySem.W.mg_of X G a11) b11 F11.kp (ok_parse_circuit F11 B KC KL XF G_Circuit_init G_device_in_q G_device_in_v G_name_in_q G_name_in_v G_net_count_in_v G_net_count_in_v)
  have G_law_line : Fn l.prog w K mg base "_law_line" 7 R_law_line := fn_wrap (PySem.W.mg_of X G a19) b19 F19.kp (ok_law_line F19 B KC KL XF G_parse_circuit GX_parse_circuit)
  exact ok_law F21 B KC KL XF G_law_cell G_law_draws G_law_line G_law_qbad_integer G_law_qcircuit G_law_qcircuit_lines G_law_wrong_line
end DL
open PySem PySem.W PyProof.Rows
local macro_rules | `(tactic| walk_at "kd") => `(tactic| first | exact DL.kd_int | exact DL.kd_bl | exact DL.kd_str | (refine' DL.kd_tup ?l ?c ?e ?z ?r; (case l => k_is); (case c => rfl); (case e => rfl); (case z => decide); (case r => walk_at "kds")))
local macro_rules | `(tactic| walk_at "kds") => `(tactic| first | exact DL.kds_nil | (refine' DL.kds_cons ?a ?b; (case a => walk_at "kd"); (case b => walk_at "kds")))
set_option maxRecDepth 100000 in
set_option maxHeartbeats 0 in
theorem PySem.Challenge.cw_reticle_k70_faults_of_written_circuits_holds : PySem.Challenge.rw_reticle_k70_faults_of_written_circuits.Holds := by
  w_on; o_law; k_head; (case hw => w_witness2)
  k_fill
  refine DL.walk_law (l := PySem.Challenge.rw_reticle_k70_faults_of_written_circuits) (k := 8) rfl ⟨rfl, by decide, by decide⟩ rfl (fun w h Y => PySem.W.kIn_of Y) ?F
  case F =>
    intro w mg fa h KX G hmg
    refine' DL.all_mk KX G hmg ?aC_Circuit ?pg_Circuit ?hd_Circuit ?po_Circuit ?sa_Circuit ?ha_Circuit ?hn_Circuit ?htk_Circuit ?hm_Circuit ?kc_Circuit ?mk_Circuit ?na0_Circuit ?na1_Circuit ?na2_Circuit ?na3_Circuit ?a0 ?l0 ?c0 ?k0 ?a1 ?l1 ?c1 ?k1 ?a2 ?l2 ?c2 ?k2 ?a3 ?l3 ?c3 ?k3 ?a4 ?i4 ?l4 ?c4 ?k4 ?a5 ?i5 ?l5 ?c5 ?k5 ?a6 ?l6 ?c6 ?k6 ?a7 ?l7 ?c7 ?k7 ?a8 ?l8 ?c8 ?k8 ?a9 ?l9 ?c9 ?k9 ?a10 ?l10 ?c10 ?k10 ?a11 ?l11 ?c11 ?k11 ?a12 ?l12 ?c12 ?k12 ?a13 ?l13 ?c13 ?k13 ?a14 ?l14 ?c14 ?k14 ?a15 ?l15 ?c15 ?k15 ?a16 ?l16 ?c16 ?k16 ?a17 ?l17 ?c17 ?k17 ?a18 ?l18 ?c18 ?k18 ?a19 ?l19 ?c19 ?k19 ?a20 ?l20 ?c20 ?k20 ?a21 ?l21 ?c21 ?k21 ?z_all ?z_dict ?z_enumerate ?z_int ?z_isinstance ?z_len ?z_range ?z_set ?z_sorted ?z_str ?z_tuple ?y_KINDS ?w_KINDS ?y_MOST_CHARACTERS ?w_MOST_CHARACTERS ?y_MOST_DEVICES ?w_MOST_DEVICES ?y_MOST_DIGITS ?w_MOST_DIGITS ?y_MOST_NETS ?w_MOST_NETS ?ea_InvalidText ?es_InvalidText ?ed_InvalidText ?et_InvalidText ?eg_InvalidText ?en_InvalidText ?ec_InvalidText ?ep_InvalidText ?ex_InvalidText ?em_InvalidText ?ea_ReticleError ?es_ReticleError ?ed_ReticleError ?et_ReticleError ?e4_m1 ?xga_InvalidText ?xgg_InvalidText ?xno0_InvalidText ?lcl_InvalidText ?lox_InvalidText ?lsa_InvalidText ?lkp_InvalidText ?lin_InvalidText ?lti_InvalidText ?lfn_InvalidText ?lcd_InvalidText ?lce_InvalidText ?lco_InvalidText ?lvs_InvalidText ?lfi_InvalidText ?lto_InvalidText ?lsu_InvalidText ?lmr_InvalidText ?lop_InvalidText ?lii_InvalidText ?lve_InvalidText ?lf1_InvalidText
    (case aC_Circuit => k_is); (case pg_Circuit => k_is); (case hd_Circuit => k_is); (case po_Circuit => k_is); (case sa_Circuit => k_is); (case ha_Circuit => k_is); (case hn_Circuit => k_is); (case htk_Circuit => k_is)
    (case hm_Circuit => k_is); (case kc_Circuit => k_is); (case mk_Circuit => k_is); (case na0_Circuit => k_is); (case na1_Circuit => k_is); (case na2_Circuit => k_is); (case na3_Circuit => k_is); (case a0 => k_is)
    (case l0 => k_is); (case c0 => k_is); (case k0 => k_is); (case a1 => k_is); (case l1 => k_is); (case c1 => k_is); (case k1 => k_is); (case a2 => k_is)
    (case l2 => k_is); (case c2 => k_is); (case k2 => k_is); (case a3 => k_is); (case l3 => k_is); (case c3 => k_is); (case k3 => k_is); (case a4 => k_is)
    (case i4 => k_is); (case l4 => k_is); (case c4 => k_is); (case k4 => k_is); (case a5 => k_is); (case i5 => k_is); (case l5 => k_is); (case c5 => k_is)
    (case k5 => k_is); (case a6 => k_is); (case l6 => k_is); (case c6 => k_is); (case k6 => k_is); (case a7 => k_is); (case l7 => k_is); (case c7 => k_is)
    (case k7 => k_is); (case a8 => k_is); (case l8 => k_is); (case c8 => k_is); (case k8 => k_is); (case a9 => k_is); (case l9 => k_is); (case c9 => k_is)
    (case k9 => k_is); (case a10 => k_is); (case l10 => k_is); (case c10 => k_is); (case k10 => k_is); (case a11 => k_is); (case l11 => k_is); (case c11 => k_is)
    (case k11 => k_is); (case a12 => k_is); (case l12 => k_is); (case c12 => k_is); (case k12 => k_is); (case a13 => k_is); (case l13 => k_is); (case c13 => k_is)
    (case k13 => k_is); (case a14 => k_is); (case l14 => k_is); (case c14 => k_is); (case k14 => k_is); (case a15 => k_is); (case l15 => k_is); (case c15 => k_is)
    (case k15 => k_is); (case a16 => k_is); (case l16 => k_is); (case c16 => k_is); (case k16 => k_is); (case a17 => k_is); (case l17 => k_is); (case c17 => k_is)
    (case k17 => k_is); (case a18 => k_is); (case l18 => k_is); (case c18 => k_is); (case k18 => k_is); (case a19 => k_is); (case l19 => k_is); (case c19 => k_is)
    (case k19 => k_is); (case a20 => k_is); (case l20 => k_is); (case c20 => k_is); (case k20 => k_is); (case a21 => k_is); (case l21 => k_is); (case c21 => k_is)
    (case k21 => k_is); (case z_all => k_is); (case z_dict => k_is); (case z_enumerate => k_is); (case z_int => k_is); (case z_isinstance => k_is); (case z_len => k_is); (case z_range => k_is)
    (case z_set => k_is); (case z_sorted => k_is); (case z_str => k_is); (case z_tuple => k_is); (case y_KINDS => k_is); (case w_KINDS => walk_at "kd"); (case y_MOST_CHARACTERS => k_is); (case w_MOST_CHARACTERS => walk_at "kd")
    (case y_MOST_DEVICES => k_is); (case w_MOST_DEVICES => walk_at "kd"); (case y_MOST_DIGITS => k_is); (case w_MOST_DIGITS => walk_at "kd"); (case y_MOST_NETS => k_is); (case w_MOST_NETS => walk_at "kd"); (case ea_InvalidText => k_is); (case es_InvalidText => k_is)
    (case ed_InvalidText => k_is); (case et_InvalidText => k_is); (case eg_InvalidText => k_is); (case en_InvalidText => k_is); (case ec_InvalidText => k_is); (case ep_InvalidText => k_is); (case ex_InvalidText => k_is); (case em_InvalidText => k_is)
    (case ea_ReticleError => k_is); (case es_ReticleError => k_is); (case ed_ReticleError => k_is); (case et_ReticleError => k_is); (case e4_m1 => k_is); (case xga_InvalidText => k_is); (case xgg_InvalidText => k_is); (case xno0_InvalidText => k_is)
    (case lcl_InvalidText => k_is); (case lox_InvalidText => rfl); (case lsa_InvalidText => k_is); (case lkp_InvalidText => k_is); (case lin_InvalidText => k_is); (case lti_InvalidText => k_is); (case lfn_InvalidText => k_is); (case lcd_InvalidText => k_is)
    (case lce_InvalidText => k_is); (case lco_InvalidText => k_is); (case lvs_InvalidText => rfl); (case lfi_InvalidText => first | rfl | decide +kernel); (case lto_InvalidText => first | rfl | decide +kernel); (case lsu_InvalidText => k_is); (case lmr_InvalidText => k_is); (case lop_InvalidText => k_is)
    (case lii_InvalidText => first | ks_is | kernel_rfl | decide +kernel); (case lve_InvalidText => k_is); (case lf1_InvalidText => k_is)
